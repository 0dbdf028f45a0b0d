"""[5.3]: rings of groups."""

import itertools
import unittest

from groupcost.cheapest import cheapest_groups
from groupcost.rings import is_ring, ring_groups, ring_of
from samples import count_of, falling_tables, mask_of, set_of, some_row


def told_ring(groups):
    """Whether a list is a ring, word by word."""
    sets = [set_of(group) for group in groups]
    return bool(sets) and all(one | other in sets and one & other in sets for one in sets for other in sets)


class IsRingTest(unittest.TestCase):
    def test_a_list_of_no_groups_is_none(self):
        self.assertIs(is_ring([]), False)

    def test_one_group(self):
        for group in (0, 1, 5, 63):
            self.assertIs(is_ring([group]), True)

    def test_all_groups(self):
        for count in range(1, 7):
            self.assertIs(is_ring(list(range(2 ** count))), True)

    def test_groups_within_one_another(self):
        self.assertIs(is_ring([0, 1, 3, 7]), True)
        self.assertIs(is_ring([7, 1, 3]), True)

    def test_without_eithers_hands(self):
        self.assertIs(is_ring([0, 1, 2]), False)
        self.assertIs(is_ring([0b001, 0b011, 0b101]), False)

    def test_without_boths_hands(self):
        self.assertIs(is_ring([1, 2, 3]), False)
        self.assertIs(is_ring([0b011, 0b101, 0b111]), False)

    def test_without_either_of_these(self):
        self.assertIs(is_ring([1, 2]), False)
        self.assertIs(is_ring([0b011, 0b101]), False)

    def test_the_fault_anywhere_in_the_list(self):
        for order in itertools.permutations([0b0000, 0b0001, 0b0011, 0b0111, 0b1000]):
            self.assertIs(is_ring(list(order)), False)
        for order in itertools.permutations([0b0000, 0b0001, 0b0010, 0b0011]):
            self.assertIs(is_ring(list(order)), True)

    def test_a_group_told_twice(self):
        self.assertIs(is_ring([1, 1]), True)
        self.assertIs(is_ring([1, 2, 1]), False)

    def test_all_lists_of_groups_of_three_hands(self):
        for chosen in range(2 ** 8):
            groups = [group for group in range(8) if chosen & 2 ** group]
            self.assertIs(is_ring(groups), told_ring(groups))


class RingTest(unittest.TestCase):
    def check_ring(self, groups, hands):
        ring = ring_of(groups, hands)
        sets = [set_of(group) for group in groups]
        self.assertEqual(ring[0], mask_of(frozenset.intersection(*sets)))
        self.assertEqual(ring[1], mask_of(frozenset.union(*sets)))
        self.assertEqual(len(ring[2]), hands)
        for hand in range(hands):
            having = [group for group in sets if hand in group]
            self.assertEqual(ring[2][hand], mask_of(frozenset.intersection(*having)) if having else None)
        self.assertEqual(ring_groups(ring), sorted(set(groups)))

    def test_one_group(self):
        self.assertEqual(ring_of([0], 1), (0, 0, [None]))
        self.assertEqual(ring_of([0b101], 3), (0b101, 0b101, [0b101, None, 0b101]))
        self.assertEqual(ring_groups((0, 0, [None])), [0])
        self.assertEqual(ring_groups((0b101, 0b101, [0b101, None, 0b101])), [0b101])

    def test_all_groups(self):
        self.assertEqual(ring_of([0, 1, 2, 3], 2), (0, 3, [1, 2]))
        self.assertEqual(ring_groups((0, 3, [1, 2])), [0, 1, 2, 3])
        for count in range(1, 7):
            ring = ring_of(list(range(2 ** count)), count)
            self.assertEqual(ring, (0, 2 ** count - 1, [2 ** hand for hand in range(count)]))
            self.assertEqual(ring_groups(ring), list(range(2 ** count)))

    def test_needs(self):
        # Hand 1 comes with hand 0 alone, hand 2 with both, hand 3 never.
        self.assertEqual(ring_of([0, 1, 3, 7], 4), (0, 7, [0b001, 0b011, 0b111, None]))
        self.assertEqual(ring_groups((0, 7, [0b001, 0b011, 0b111, None])), [0, 1, 3, 7])
        # Hands 0 and 2 come together, hand 1 is always there.
        self.assertEqual(ring_of([0b010, 0b111], 3), (0b010, 0b111, [0b111, 0b010, 0b111]))
        self.assertEqual(ring_groups((0b010, 0b111, [0b111, 0b010, 0b111])), [0b010, 0b111])

    def test_hands_that_no_group_has(self):
        self.assertEqual(ring_of([0b0010, 0b0110], 6), (2, 6, [None, 2, 6, None, None, None]))

    def test_in_any_order_and_told_twice(self):
        self.assertEqual(ring_of([7, 0, 3, 0, 1, 7], 3), (0, 7, [1, 3, 7]))
        self.check_ring([7, 0, 3, 0, 1, 7], 3)

    def test_all_rings_of_three_hands(self):
        for chosen in range(1, 2 ** 8):
            groups = [group for group in range(8) if chosen & 2 ** group]
            if told_ring(groups):
                self.check_ring(groups, 3)
                self.check_ring(groups[::-1], 4)

    def test_cheapest_groups_of_tables_that_fall(self):
        sizes = set()
        for place, table in enumerate(falling_tables()):
            count = count_of(table)
            alone = [table[2 ** hand] for hand in range(count)]
            last = [table[-1] - table[len(table) - 1 - 2 ** hand] for hand in range(count)]
            for prices in (some_row(count, place), alone, last, [0] * count, some_row(count, place, 0, 2)):
                groups = cheapest_groups(table, prices)
                self.assertIs(is_ring(groups), True)
                self.check_ring(groups, count)
                sizes.add(len(groups))
        self.assertTrue({1, 2, 3, 4} <= sizes)


if __name__ == "__main__":
    unittest.main()
