"""[2.1] and [2.2]: tables that fall, rise, do both and do neither."""

import unittest

from groupcost.falling import break_of, falls, flat_row, rise_break, rises, two_break
from groupcost.tables import row_table
from samples import HUGE, any_table, as_costs, many_tables, set_of, some_row, told_break, told_falls, told_rises

FALLING = [0, 3, 5, 7, 4, 6, 8, 9]
RISING = [0, 1, 3, 5, 2, 4, 6, 9]
NEITHER = [0, 1, 1, 3, 1, 1, 2, 3]


class FallingTest(unittest.TestCase):
    def test_a_table_that_falls(self):
        self.assertIs(falls(FALLING), True)
        self.assertIs(rises(FALLING), False)
        self.assertIsNone(break_of(FALLING))
        self.assertEqual(rise_break(FALLING), (0, 0, 1))

    def test_a_table_that_rises(self):
        self.assertIs(falls(RISING), False)
        self.assertIs(rises(RISING), True)
        self.assertEqual(break_of(RISING), (0, 0, 1))
        self.assertIsNone(rise_break(RISING))

    def test_a_table_that_does_neither(self):
        self.assertIs(falls(NEITHER), False)
        self.assertIs(rises(NEITHER), False)
        self.assertEqual(break_of(NEITHER), (0, 0, 1))
        self.assertEqual(rise_break(NEITHER), (0, 0, 2))

    def test_ties_are_no_breaks(self):
        flat = row_table([4, -7, 2])
        self.assertIs(falls(flat), True)
        self.assertIs(rises(flat), True)
        self.assertIsNone(break_of(flat))
        self.assertIsNone(rise_break(flat))

    def test_one_hand_alone_does_both(self):
        for cost in (0, 5, -5, HUGE, -HUGE):
            self.assertIs(falls([0, cost]), True)
            self.assertIs(rises([0, cost]), True)
            self.assertIsNone(break_of([0, cost]))
            self.assertIsNone(rise_break([0, cost]))

    def test_two_hands(self):
        self.assertEqual(break_of([0, 1, 2, 4]), (0, 0, 1))
        self.assertIsNone(rise_break([0, 1, 2, 4]))
        self.assertIsNone(break_of([0, 1, 2, 2]))
        self.assertEqual(rise_break([0, 1, 2, 2]), (0, 0, 1))

    def test_a_difference_of_one_in_long_numbers(self):
        self.assertIsNone(break_of([0, HUGE, -HUGE, 0]))
        self.assertEqual(break_of([0, HUGE, -HUGE, 1]), (0, 0, 1))
        self.assertEqual(rise_break([0, HUGE, -HUGE, -1]), (0, 0, 1))
        self.assertEqual(break_of([0, HUGE, HUGE, 2 * HUGE + 1]), (0, 0, 1))

    def test_word_by_word(self):
        for table in many_tables():
            found, found_rising = told_break(table), told_break([-cost for cost in table])
            self.assertEqual(break_of(table), found)
            self.assertEqual(rise_break(table), found_rising)
            self.assertIs(falls(table), found is None)
            self.assertIs(rises(table), found_rising is None)

    def test_falling_by_any_two_groups(self):
        for table in many_tables():
            if len(table) <= 32:
                self.assertIs(falls(table), told_falls(table))
                self.assertIs(rises(table), told_rises(table))


class BreakOrderTest(unittest.TestCase):
    def with_breaks(self, raised):
        """A table of four hands, level but for groups whose cost is told."""
        return [raised.get(group, 0) for group in range(16)]

    def test_the_least_group_goes_first(self):
        # The least S has here greater hands than a greater S: only hands 2 and 3 break at 0, hands 0 and 1 at 12.
        steps = [0, 9, 9, 14, 9, 14, 14, 14, 9, 14, 14, 14, 19, 16, 16, 18]
        self.assertEqual(break_of(steps), (0, 2, 3))
        self.assertTrue(two_break(steps, 0b1101, 0b1110))

    def test_a_break_behind_the_empty_group_alone(self):
        table = [0, 5, 5, 8, 5, 8, 8, 12]
        self.assertEqual(break_of(table), (1, 1, 2))

    def test_the_least_first_hand_and_then_the_least_second_one(self):
        self.assertEqual(break_of(self.with_breaks({0b1001: 1, 0b0110: 1})), (0, 0, 3))
        self.assertEqual(break_of(self.with_breaks({0b1010: 1, 0b0110: 1})), (0, 1, 2))
        self.assertEqual(break_of(self.with_breaks({0b1001: 1, 0b0101: 1})), (0, 0, 2))

    def test_the_last_place_of_six_hands(self):
        # What k hands cost bends downwards, so every S keeps falling; only all six together cost too much.
        table = [10 * len(set_of(group)) - len(set_of(group)) ** 2 for group in range(64)]
        self.assertIsNone(break_of(table))
        table[63] += 3
        self.assertEqual(break_of(table), (0b001111, 4, 5))
        self.assertEqual(rise_break([-cost for cost in table]), (0b001111, 4, 5))


class TwoBreakTest(unittest.TestCase):
    def test_ordinary(self):
        table = [0, 1, 2, 4, 3, 4, 5, 6]
        self.assertIs(two_break(table, 1, 2), True)
        self.assertIs(two_break(table, 2, 1), True)
        self.assertIs(two_break(table, 1, 4), False)
        self.assertIs(two_break(table, 3, 5), False)

    def test_groups_within_one_another_never_break(self):
        for table in (FALLING, RISING, NEITHER, any_table(3, 9)):
            for one in range(8):
                for other in range(8):
                    if set_of(one) <= set_of(other):
                        self.assertIs(two_break(table, one, other), False)
                        self.assertIs(two_break(table, other, one), False)

    def test_groups_that_overlap(self):
        table = [0, 0, 0, 0, 0, 0, 0, 1]
        self.assertIs(two_break(table, 0b011, 0b110), True)
        self.assertIs(two_break(table, 0b011, 0b100), True)
        self.assertIs(two_break([0, 0, -1, 0, 0, 0, 0, 1], 0b011, 0b110), False)

    def test_any_two_groups_word_by_word(self):
        for count in range(1, 6):
            table = any_table(count, 4, -2, 2)
            costs = as_costs(table)
            for one in range(2 ** count):
                for other in range(2 ** count):
                    apart = costs[set_of(one)] + costs[set_of(other)]
                    joined = costs[set_of(one) | set_of(other)] + costs[set_of(one) & set_of(other)]
                    self.assertIs(two_break(table, one, other), apart < joined)

    def test_a_difference_of_one_in_long_numbers(self):
        self.assertIs(two_break([0, HUGE, -HUGE, 0], 1, 2), False)
        self.assertIs(two_break([0, HUGE, -HUGE, 1], 1, 2), True)


class FlatTest(unittest.TestCase):
    def test_of_a_rows_table(self):
        for count in range(1, 7):
            for seed in range(5):
                row = some_row(count, seed)
                self.assertEqual(flat_row(row_table(row)), row)
        self.assertEqual(flat_row([0, HUGE, -HUGE, 0]), [HUGE, -HUGE])

    def test_of_one_with_a_changed_cost(self):
        for count in range(2, 7):
            for group in range(1, 2 ** count):
                for change in (1, -1):
                    table = row_table(some_row(count, group))
                    table[group] += change
                    self.assertIsNone(flat_row(table))

    def test_of_one_hand(self):
        self.assertEqual(flat_row([0, 0]), [0])
        self.assertEqual(flat_row([0, -6]), [-6])
        self.assertEqual(flat_row([0, HUGE]), [HUGE])

    def test_of_tables_that_only_fall_or_only_rise(self):
        self.assertIsNone(flat_row(FALLING))
        self.assertIsNone(flat_row(RISING))
        self.assertIsNone(flat_row(NEITHER))

    def test_flat_is_falling_and_rising(self):
        for table in many_tables():
            self.assertEqual(flat_row(table) is not None, told_break(table) is None and
                             told_break([-cost for cost in table]) is None)


if __name__ == "__main__":
    unittest.main()
