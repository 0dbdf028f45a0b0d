"""[0.1] and [1.1]: groups as masks."""

import itertools
import unittest

from groupcost.masks import group_of, groups_in, hands_in, many_in, within
from samples import mask_of, set_of


class HandsTest(unittest.TestCase):
    def test_hands_in_growing_order(self):
        self.assertEqual(hands_in(0), [])
        self.assertEqual(hands_in(1), [0])
        self.assertEqual(hands_in(2), [1])
        self.assertEqual(hands_in(0b101101), [0, 2, 3, 5])
        self.assertEqual(hands_in(0b100000), [5])
        self.assertEqual(hands_in(0b111111), [0, 1, 2, 3, 4, 5])

    def test_how_many(self):
        self.assertEqual([many_in(group) for group in range(8)], [0, 1, 1, 2, 1, 2, 2, 3])
        self.assertEqual(many_in(0b101101), 4)
        self.assertEqual(many_in(0b111111), 6)

    def test_every_group_of_six_hands(self):
        for group in range(64):
            self.assertEqual(hands_in(group), sorted(set_of(group)))
            self.assertEqual(many_in(group), len(set_of(group)))


class GroupOfTest(unittest.TestCase):
    def test_ordinary(self):
        self.assertEqual(group_of([]), 0)
        self.assertEqual(group_of([0]), 1)
        self.assertEqual(group_of([5]), 32)
        self.assertEqual(group_of([0, 1, 2, 3, 4, 5]), 63)

    def test_a_hand_told_twice_counts_once(self):
        self.assertEqual(group_of([2, 2]), 4)
        self.assertEqual(group_of([0, 3, 0, 3, 3]), 9)

    def test_any_order(self):
        for hands in itertools.permutations([0, 2, 3, 5]):
            self.assertEqual(group_of(list(hands)), 45)

    def test_leads_back(self):
        for group in range(64):
            self.assertEqual(group_of(hands_in(group)), group)
            self.assertEqual(group_of(hands_in(group)[::-1] + hands_in(group)), group)


class WithinTest(unittest.TestCase):
    def test_both_ways_round(self):
        self.assertIs(within(0b001, 0b011), True)
        self.assertIs(within(0b011, 0b001), False)
        self.assertIs(within(0b100, 0b011), False)
        self.assertIs(within(0b011, 0b100), False)
        self.assertIs(within(0b110, 0b011), False)

    def test_itself_and_the_empty_group(self):
        for group in range(64):
            self.assertIs(within(group, group), True)
            self.assertIs(within(0, group), True)
            self.assertIs(within(group, 63), True)
            self.assertIs(within(group, 0), group == 0)

    def test_every_two_groups_of_six_hands(self):
        for one in range(64):
            for other in range(64):
                self.assertIs(within(one, other), set_of(one) <= set_of(other))


class GroupsInTest(unittest.TestCase):
    def test_ordinary(self):
        self.assertEqual(groups_in(0), [0])
        self.assertEqual(groups_in(1), [0, 1])
        self.assertEqual(groups_in(0b100000), [0, 32])
        self.assertEqual(groups_in(0b1101), [0, 1, 4, 5, 8, 9, 12, 13])
        self.assertEqual(groups_in(63), list(range(64)))

    def test_every_group_of_six_hands(self):
        for group in range(64):
            told = groups_in(group)
            hands = sorted(set_of(group))
            parts = [part for many in range(7) for part in itertools.combinations(hands, many)]
            self.assertEqual(told, sorted(mask_of(part) for part in parts))
            self.assertEqual(told[0], 0)
            self.assertEqual(told[-1], group)


if __name__ == "__main__":
    unittest.main()
