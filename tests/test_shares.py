"""[3.1], [3.2] and [3.4]: shares under a table, their rooms, full groups and cores."""

import unittest

from groupcost.orders import by_order
from groupcost.shares import core_of, full_groups, is_base, is_under, over, room_of, way_room
from samples import (
    HUGE, any_table, as_costs, bases_of, count_of, falling_tables, gives, lowered_under, many_tables, mask_of,
    orders_of, rows_around, some_row, told_base, told_under,
)

THREE = [0, 3, 5, 7, 4, 6, 8, 9]
NOT_FALLING = [0, 1, 1, 3, 1, 1, 2, 3]


def tables_and_shares():
    """Tables of all kinds with shares under them, at them and over them."""
    for place, table in enumerate(many_tables()[::3]):
        count = count_of(table)
        yield table, some_row(count, place)
        yield table, some_row(count, place, -30, -15)
        yield table, by_order(table, list(range(count)))
        yield table, lowered_under(table, some_row(count, place))


class OverTest(unittest.TestCase):
    def test_under_and_a_base(self):
        self.assertEqual(over(THREE, [3, 4, 2]), (0, 0))
        self.assertIs(is_under(THREE, [3, 4, 2]), True)
        self.assertIs(is_base(THREE, [3, 4, 2]), True)

    def test_under_and_no_base(self):
        self.assertEqual(over(THREE, [3, 4, 1]), (0, 0))
        self.assertIs(is_under(THREE, [3, 4, 1]), True)
        self.assertIs(is_base(THREE, [3, 4, 1]), False)

    def test_over_with_the_sum_of_a_base(self):
        self.assertEqual(over(THREE, [4, 4, 1]), (1, 1))
        self.assertIs(is_under(THREE, [4, 4, 1]), False)
        self.assertIs(is_base(THREE, [4, 4, 1]), False)

    def test_over_at_all_hands_alone(self):
        self.assertEqual(over([0, 5, 5, 8], [5, 4]), (3, 1))
        self.assertIs(is_under([0, 5, 5, 8], [5, 4]), False)

    def test_over_at_two_groups_by_as_much_the_first_by_masks(self):
        self.assertEqual(over(THREE, [5, 5, 6]), (0b111, 7))
        self.assertEqual(over([0, 1, 1, 9, 1, 9, 9, 20], [4, 4, 4]), (0b001, 3))
        self.assertEqual(over([0, 9, 1, 20, 1, 20, 9, 20], [0, 4, 4]), (0b010, 3))
        self.assertEqual(over([0, 9, 9, 5, 9, 5, 9, 20], [4, 4, 4]), (0b011, 3))

    def test_the_empty_group_has_nought(self):
        self.assertEqual(over([0, 5], [5]), (0, 0))
        self.assertEqual(over([0, 5], [-9]), (0, 0))
        self.assertEqual(over([0, -5], [-5]), (0, 0))
        self.assertEqual(over([0, -5], [-4]), (1, 1))

    def test_long_numbers(self):
        self.assertEqual(over([0, HUGE, -HUGE, 0], [HUGE, -HUGE]), (0, 0))
        self.assertEqual(over([0, HUGE, -HUGE, 0], [HUGE, -HUGE + 1]), (2, 1))
        self.assertIs(is_base([0, HUGE, -HUGE, 0], [HUGE, -HUGE]), True)
        self.assertIs(is_base([0, HUGE, -HUGE, 0], [HUGE, -HUGE - 1]), False)

    def test_word_by_word(self):
        for table, shares in tables_and_shares():
            costs = as_costs(table)
            overs = {mask_of(hands): gives(shares, hands) - cost for hands, cost in costs.items()}
            most = max(overs.values())
            self.assertEqual(over(table, shares), (min(mask for mask in overs if overs[mask] == most), most))
            self.assertIs(is_under(table, shares), told_under(table, shares))
            self.assertIs(is_base(table, shares), told_base(table, shares))


class RoomTest(unittest.TestCase):
    def test_above_at_and_below_nought(self):
        table = [0, 5, 5, 8]
        self.assertEqual([room_of(table, [1, 2], hand) for hand in (0, 1)], [4, 3])
        self.assertEqual([room_of(table, [5, 3], hand) for hand in (0, 1)], [0, 0])
        self.assertEqual([room_of(table, [5, -3], hand) for hand in (0, 1)], [0, 6])
        self.assertEqual([room_of(table, [7, 3], hand) for hand in (0, 1)], [-2, -2])
        self.assertEqual([room_of([0, -4], [-9], 0), room_of([0, -4], [2], 0)], [5, -6])

    def test_ways_both_ways_round(self):
        table = [0, 5, 6, 8]
        self.assertEqual(way_room(table, [1, 2], 0, 1), 4)
        self.assertEqual(way_room(table, [1, 2], 1, 0), 4)
        self.assertEqual(way_room(table, [5, 2], 0, 1), 0)
        self.assertEqual(way_room(table, [5, 2], 1, 0), 4)
        self.assertEqual(way_room(table, [7, 1], 0, 1), -2)
        self.assertEqual(way_room(table, [7, 1], 1, 0), 5)

    def test_the_other_hands_count(self):
        # Hand 0 has most room alone, less with hand 1, and the way to hand 1 does not mind that group.
        table = [0, 9, 9, 4, 9, 9, 9, 9]
        self.assertEqual(room_of(table, [0, 0, 0], 0), 4)
        self.assertEqual(way_room(table, [0, 0, 0], 0, 1), 9)
        self.assertEqual(way_room(table, [0, 0, 0], 0, 2), 4)

    def test_long_numbers(self):
        self.assertEqual(room_of([0, HUGE, -HUGE, 0], [HUGE - 1, -HUGE], 0), 1)
        self.assertEqual(way_room([0, HUGE, -HUGE, 0], [-HUGE, -HUGE], 0, 1), 2 * HUGE)

    def test_word_by_word(self):
        for table, shares in tables_and_shares():
            left = {hands: cost - gives(shares, hands) for hands, cost in as_costs(table).items()}
            for hand in range(len(shares)):
                self.assertEqual(room_of(table, shares, hand), min(left[hands] for hands in left if hand in hands))
                for other in range(len(shares)):
                    if other != hand:
                        room = min(left[hands] for hands in left if hand in hands and other not in hands)
                        self.assertEqual(way_room(table, shares, hand, other), room)

    def moved(self, shares, grows, much, falls=None):
        changed = list(shares)
        changed[grows] += much
        if falls is not None:
            changed[falls] -= much
        return changed

    def test_shares_stay_under_with_the_room_and_not_with_one_more(self):
        for table, shares in tables_and_shares():
            if not told_under(table, shares):
                continue
            for hand in range(len(shares)):
                room = room_of(table, shares, hand)
                self.assertGreaterEqual(room, 0)
                self.assertTrue(told_under(table, self.moved(shares, hand, room)))
                self.assertFalse(told_under(table, self.moved(shares, hand, room + 1)))
                for other in range(len(shares)):
                    if other != hand:
                        way = way_room(table, shares, hand, other)
                        self.assertTrue(told_under(table, self.moved(shares, hand, way, other)))
                        self.assertFalse(told_under(table, self.moved(shares, hand, way + 1, other)))


class FullTest(unittest.TestCase):
    def test_ordinary(self):
        self.assertEqual(full_groups(THREE, [3, 4, 2]), [0b000, 0b001, 0b011, 0b111])
        self.assertEqual(full_groups(THREE, [0, 0, 0]), [0])
        self.assertEqual(full_groups([0, 5], [5]), [0, 1])
        self.assertEqual(full_groups([0, 5], [4]), [0])
        self.assertEqual(full_groups([0, 0, 0, 0], [0, 0]), [0, 1, 2, 3])
        self.assertEqual(full_groups([0, HUGE, -HUGE, 0], [HUGE, -HUGE - 1]), [0, 1])

    def test_cores(self):
        self.assertEqual([core_of(THREE, [3, 4, 2], hand) for hand in range(3)], [0b001, 0b011, 0b111])
        self.assertEqual([core_of(THREE, [1, 5, 0], hand) for hand in range(3)], [None, 0b010, None])
        self.assertEqual([core_of(THREE, [2, 5, 0], hand) for hand in range(3)], [0b011, 0b010, None])
        self.assertEqual(core_of([0, 5], [5], 0), 1)
        self.assertIsNone(core_of([0, 5], [4], 0))

    def test_a_core_of_a_table_that_does_not_fall_may_not_be_full(self):
        # Hands 0 and 1, and hands 0 and 2, are full; hand 0 alone, which these have in common, isn't.
        table = [0, 9, 9, 2, 9, 2, 9, 9]
        self.assertEqual(full_groups(table, [1, 1, 1]), [0, 0b011, 0b101])
        self.assertEqual(core_of(table, [1, 1, 1], 0), 0b001)
        self.assertEqual(core_of(table, [1, 1, 1], 2), 0b101)

    def test_word_by_word(self):
        for table, shares in tables_and_shares():
            if not told_under(table, shares):
                continue
            full = [hands for hands, cost in as_costs(table).items() if gives(shares, hands) == cost]
            told = full_groups(table, shares)
            self.assertEqual(told, sorted(mask_of(hands) for hands in full))
            self.assertIn(0, told)
            for hand in range(len(shares)):
                having = [hands for hands in full if hand in hands]
                core = mask_of(frozenset.intersection(*having)) if having else None
                self.assertEqual(core_of(table, shares, hand), core)

    def test_where_the_table_falls_full_groups_join_and_meet_and_cores_are_full(self):
        for table in falling_tables():
            for order in orders_of(count_of(table))[::7]:
                shares = by_order(table, order)
                for lowered in [shares] + [[s - (h == k) for h, s in enumerate(shares)] for k in range(len(shares))]:
                    self.check_lattice(table, lowered)

    def check_lattice(self, table, shares):
        full = full_groups(table, shares)
        for one in full:
            for other in full:
                self.assertIn(one | other, full)
                self.assertIn(one & other, full)
        for hand in range(len(shares)):
            core = core_of(table, shares, hand)
            self.assertTrue(core is None or core in full)

    def test_full_groups_of_bases_and_of_all_shares_under_a_small_table(self):
        table = [0, 2, 2, 3, 1, 2, 3, 3]
        for shares in bases_of(table):
            self.check_lattice(table, shares)
        for shares in rows_around(3, -1, 2):
            if told_under(table, shares):
                self.check_lattice(table, shares)

    def test_tables_that_do_not_fall(self):
        self.assertEqual(full_groups(NOT_FALLING, [0, 1, 1]), [0b000, 0b010, 0b100, 0b101, 0b110])
        self.assertEqual(core_of(NOT_FALLING, [0, 1, 1], 0), 0b101)
        table = any_table(4, 3, 1, 9)
        self.assertEqual(full_groups(table, [0, 0, 0, 0]), [0])


if __name__ == "__main__":
    unittest.main()
