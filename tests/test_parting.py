"""[6.1] to [6.3]: partings, common shares, and a hand that is fixed at a share."""

import unittest

from groupcost.errors import NotFalling, NotUnder, Unlike
from groupcost.parting import common, fixed_hand, parting
from samples import (
    HUGE, any_table, as_costs, as_table, bent_table, count_of, falling_table, falling_tables, gives, long_table,
    many_tables, mask_of, rows_around, set_of, told_break, told_under,
)

THREE = [0, 3, 5, 7, 4, 6, 8, 9]
RISING = [0, 1, 3, 5, 2, 4, 6, 9]


def told_partings(one, other):
    """What each parting costs, by the masks of the groups that work by the first table."""
    first, second = as_costs(one), as_costs(other)
    everybody = frozenset(range(count_of(one)))
    return {mask_of(hands): first[hands] + second[everybody - hands] for hands in first}


def falling_pairs():
    """Two tables that fall, of one hand to six."""
    for count in range(1, 7):
        tables = [table for table in falling_tables() if count_of(table) == count]
        for one in tables[::2]:
            for other in tables[::3]:
                yield one, other
                yield other, one


class PartingTest(unittest.TestCase):
    def test_ordinary(self):
        self.assertEqual(parting([0, 5], [0, 7]), (1, 5))
        self.assertEqual(parting([0, 5], [0, 3]), (0, 3))
        self.assertEqual(parting([0, 5], [0, -3]), (0, -3))
        self.assertEqual(parting([0, 1, 9, 9], [0, 9, 2, 9]), (0b01, 3))
        self.assertEqual(parting([0, 9, 1, 9], [0, 2, 9, 9]), (0b10, 3))
        self.assertEqual(parting([0, HUGE, -HUGE, 1], [0, -HUGE, HUGE, 1]), (0b10, -2 * HUGE))

    def test_the_first_by_masks_among_several(self):
        self.assertEqual(parting([0, 5], [0, 5]), (0, 5))
        self.assertEqual(parting([0, 1, 1, 3], [0, 2, 2, 4]), (0b01, 3))
        self.assertEqual(parting([0, 3, 1, 3], [0, 2, 2, 4]), (0b10, 3))
        self.assertEqual(parting([0] * 64, [0] * 64), (0, 0))
        self.assertEqual(parting([0, 2, 2, 1, 2, 1, 2, 2], [0] * 7 + [2]), (0b011, 1))

    def test_any_two_tables_word_by_word(self):
        tables = many_tables()
        for place, one in enumerate(tables):
            for other in (tables[place - 1], any_table(count_of(one), place, 0, 2), [0] * len(one)):
                if len(other) == len(one):
                    costs = told_partings(one, other)
                    least = min(costs.values())
                    first = min(mask for mask, cost in costs.items() if cost == least)
                    self.assertEqual(parting(one, other), (first, least))

    def test_tables_of_unlike_lengths_are_refused(self):
        for one in range(1, 7):
            for other in range(1, 7):
                if one != other:
                    with self.assertRaises(Unlike):
                        parting(falling_table(one, 1), any_table(other, 1))


class CommonTest(unittest.TestCase):
    def check_common(self, one, other):
        shares, group = common(one, other)
        self.assertEqual(len(shares), count_of(one))
        costs = told_partings(one, other)
        least = min(costs.values())
        self.assertEqual(group, min(mask for mask, cost in costs.items() if cost == least))
        self.assertTrue(told_under(one, shares))
        self.assertTrue(told_under(other, shares))
        self.assertEqual(sum(shares), least)
        others = frozenset(range(len(shares))) - set_of(group)
        self.assertEqual(gives(shares, set_of(group)), one[group])
        self.assertEqual(gives(shares, others), other[mask_of(others)])

    def test_ordinary(self):
        self.assertEqual(common([0, 5], [0, 7]), ([5], 1))
        self.assertEqual(common([0, 5], [0, 5]), ([5], 0))
        self.assertEqual(common([0, -5], [0, 3]), ([-5], 1))
        self.assertEqual(common([0, 1, 9, 10], [0, 9, 2, 11]), ([1, 2], 1))
        self.check_common(THREE, THREE)
        self.check_common(THREE, [0] * 8)
        self.check_common([0] * 8, THREE)

    def test_one_hand_to_six(self):
        for one, other in falling_pairs():
            self.check_common(one, other)

    def test_six_hands_bent(self):
        for seed in range(10):
            self.check_common(bent_table(6, seed), bent_table(6, seed + 100))

    def test_long_numbers_of_either_sign(self):
        for count in (1, 2, 4, 6):
            for seed in range(3):
                one, other = long_table(count, seed), long_table(count, seed + 10)
                self.check_common(one, other)
                self.check_common(one, [-HUGE * len(set_of(group)) for group in range(2 ** count)])

    def test_common_shares_come_to_no_more_than_a_parting(self):
        one, other = [0, 2, 2, 3, 1, 2, 3, 3], [0, 1, 2, 2, 2, 3, 3, 3]
        most = max(sum(row) for row in rows_around(3, -2, 2) if told_under(one, row) and told_under(other, row))
        self.assertEqual(most, parting(one, other)[1])
        self.check_common(one, other)

    def test_the_same_each_time(self):
        for one, other in list(falling_pairs())[::20]:
            self.assertEqual(common(one, other), common(one, other))

    def test_tables_that_do_not_fall_are_refused(self):
        for count in range(2, 7):
            falling = falling_table(count, 2)
            for broken in (as_table(count, lambda hands: len(hands) ** 2), falling[:-1] + [falling[-1] + 99]):
                self.assertIsNotNone(told_break(broken))
                for one, other in ((broken, falling), (falling, broken), (broken, broken)):
                    with self.assertRaises(NotFalling):
                        common(one, other)

    def test_unlike_goes_ahead_of_not_falling(self):
        for one in (THREE, RISING):
            for other in ([0, 5, 6, 8], [0, 1, 2, 4], [0, 5], [0] * 16):
                for pair in ((one, other), (other, one)):
                    with self.assertRaises(Unlike):
                        common(*pair)


class FixedTest(unittest.TestCase):
    def told_fixed(self, table, hand, share):
        """[6.3] word by word."""
        costs = as_costs(table)
        others = [other for other in range(count_of(table)) if other != hand]
        fixed = []
        for mask in range(2 ** len(others)):
            group = frozenset(others[place] for place in set_of(mask))
            fixed.append(min(costs[group], costs[group | {hand}] - share))
        return fixed

    def test_ordinary(self):
        self.assertEqual(fixed_hand([0, 5, 6, 8], 0, 5), [0, 3])
        self.assertEqual(fixed_hand([0, 5, 6, 8], 0, 2), [0, 6])
        self.assertEqual(fixed_hand([0, 5, 6, 8], 0, -9), [0, 6])
        self.assertEqual(fixed_hand([0, 5, 6, 8], 1, 6), [0, 2])
        self.assertEqual(fixed_hand([0, 5, 6, 8], 1, 4), [0, 4])
        self.assertEqual(fixed_hand(THREE, 1, 5), [0, 2, 3, 4])
        self.assertEqual(fixed_hand([0, HUGE, -HUGE, 1], 0, HUGE), [0, -HUGE])
        self.assertEqual(fixed_hand([0, HUGE, HUGE, 1], 0, HUGE), [0, 1 - HUGE])

    def test_each_hand_at_and_below_what_it_costs_and_not_one_above(self):
        for table in many_tables() + falling_tables():
            count = count_of(table)
            for hand in range(count if count > 1 else 0):
                alone = table[2 ** hand]
                for share in (alone, alone - 1, alone - 4, alone - 100):
                    told = fixed_hand(table, hand, share)
                    self.assertEqual(told, self.told_fixed(table, hand, share))
                    self.assertEqual(told[0], 0)
                    if told_break(table) is None:
                        self.assertIsNone(told_break(told))
                for share in (alone + 1, alone + 50):
                    with self.assertRaises(NotUnder):
                        fixed_hand(table, hand, share)

    def test_shares_of_the_others_are_under_it_just_where_with_that_share_they_are_under_the_table(self):
        for table in (THREE, [0, 2, 2, 3, 1, 2, 3, 3], [0, 1, 1, 3, 1, 1, 2, 3], any_table(3, 2, -2, 3)):
            for hand in range(3):
                for share in (table[2 ** hand], table[2 ** hand] - 1, table[2 ** hand] - 3):
                    told = fixed_hand(table, hand, share)
                    for row in rows_around(2, -4, 9):
                        whole = row[:hand] + [share] + row[hand:]
                        self.assertEqual(told_under(told, row), told_under(table, whole))

    def test_six_hands_and_long_numbers(self):
        table = long_table(6, 3)
        for hand in range(6):
            for share in (table[2 ** hand], table[2 ** hand] - HUGE):
                told = fixed_hand(table, hand, share)
                self.assertEqual(told, self.told_fixed(table, hand, share))
                self.assertIsNone(told_break(told))


if __name__ == "__main__":
    unittest.main()
