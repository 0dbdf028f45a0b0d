"""[0.1] to [0.3] and [1.2] to [1.6]: rows and tables."""

import itertools
import unittest

from groupcost.errors import BadTable, Unlike
from groupcost.tables import (
    added, behind, by_numbers, everybody, hand_count, kept_to, less_row, mirror, row_gives, row_table, scaled, table_of,
)
from samples import HUGE, any_table, as_costs, as_table, many_tables, mask_of, set_of, sets_of, some_row

LENGTHS = [2, 4, 8, 16, 32, 64]
THREE = [0, 3, 5, 7, 4, 6, 8, 9]


class TableOfTest(unittest.TestCase):
    def test_the_lengths_that_are_tables(self):
        for length in LENGTHS:
            numbers = [0] + list(range(-3, length - 4))
            self.assertEqual(len(numbers), length)
            table = table_of(numbers)
            self.assertEqual(table, numbers)
            self.assertIsNot(table, numbers)

    def test_every_other_length_is_refused(self):
        for length in [0, 1, 3, 63, 65, 128] + [length for length in range(200) if length not in LENGTHS]:
            with self.subTest(length), self.assertRaises(BadTable):
                table_of([0] * length)

    def test_a_first_number_other_than_nought_is_refused(self):
        for length in LENGTHS:
            for first in (1, -1, 5, HUGE, -HUGE):
                with self.subTest(length=length, first=first), self.assertRaises(BadTable):
                    table_of([first] + [0] * (length - 1))

    def test_both_faults_are_refused(self):
        for length in (1, 3, 65):
            with self.assertRaises(BadTable):
                table_of([4] * length)

    def test_long_numbers(self):
        self.assertEqual(table_of([0, HUGE, -HUGE, 1]), [0, HUGE, -HUGE, 1])


class SizeTest(unittest.TestCase):
    def test_how_many_hands_and_everybody(self):
        self.assertEqual([hand_count([0] * length) for length in LENGTHS], [1, 2, 3, 4, 5, 6])
        self.assertEqual([everybody([0] * length) for length in LENGTHS], [1, 3, 7, 15, 31, 63])


class RowTest(unittest.TestCase):
    def test_what_a_row_gives(self):
        row = [4, -7, 2]
        self.assertEqual(row_gives(row, 0), 0)
        self.assertEqual([row_gives(row, 1), row_gives(row, 2), row_gives(row, 4)], [4, -7, 2])
        self.assertEqual(row_gives(row, 0b101), 6)
        self.assertEqual(row_gives(row, 0b011), -3)
        self.assertEqual(row_gives(row, 0b111), -1)

    def test_one_hand_and_six_hands(self):
        self.assertEqual([row_gives([-8], 0), row_gives([-8], 1)], [0, -8])
        row = [1, -20, 300, -4000, 50000, -600000]
        self.assertEqual(row_gives(row, 0), 0)
        self.assertEqual(row_gives(row, 63), sum(row))
        self.assertEqual(row_gives(row, 0b100101), 1 + 300 - 600000)

    def test_long_numbers(self):
        self.assertEqual(row_gives([HUGE, -HUGE, HUGE], 0b101), 2 * HUGE)
        self.assertEqual(row_gives([HUGE, -HUGE, HUGE], 0b011), 0)
        self.assertEqual(row_gives([HUGE, -HUGE, 1], 0b110), 1 - HUGE)

    def test_row_table(self):
        self.assertEqual(row_table([5]), [0, 5])
        self.assertEqual(row_table([4, -7, 2]), [0, 4, -7, -3, 2, 6, -5, -1])
        for count in range(1, 7):
            row = some_row(count, 1)
            self.assertEqual(row_table(row), as_table(count, lambda hands: sum(row[hand] for hand in hands)))
        self.assertEqual(row_table([HUGE, -HUGE]), [0, HUGE, -HUGE, 0])


class SumTest(unittest.TestCase):
    def test_added(self):
        self.assertEqual(added([0, 2], [0, -5]), [0, -3])
        self.assertEqual(added([0, 1, 2, 3], [0, 10, -20, 30]), [0, 11, -18, 33])
        self.assertEqual(added([0, HUGE, -HUGE, 7], [0, HUGE, HUGE, -7]), [0, 2 * HUGE, 0, 0])
        for count in range(1, 7):
            one, other = any_table(count, 1), any_table(count, 2)
            expected = [one[group] + other[group] for group in range(2 ** count)]
            self.assertEqual(added(one, other), expected)
            self.assertEqual(added(other, one), expected)

    def test_tables_of_unlike_lengths_are_refused(self):
        for one in LENGTHS:
            for other in LENGTHS:
                if one != other:
                    with self.subTest(one=one, other=other), self.assertRaises(Unlike):
                        added([0] * one, [0] * other)

    def test_scaled(self):
        self.assertEqual(scaled(3, [0, 1, -2, 4]), [0, 3, -6, 12])
        self.assertEqual(scaled(-2, [0, 1, -2, 4]), [0, -2, 4, -8])
        self.assertEqual(scaled(0, [0, 1, -2, 4]), [0, 0, 0, 0])
        self.assertEqual(scaled(1, THREE), THREE)
        self.assertEqual(scaled(-HUGE, [0, HUGE]), [0, -HUGE * HUGE])

    def test_less_row(self):
        self.assertEqual(less_row([0, 4], [6]), [0, -2])
        self.assertEqual(less_row(THREE, [1, -2, 3]), [0, 2, 7, 8, 1, 2, 7, 7])
        self.assertEqual(less_row([0, HUGE, -HUGE, 0], [HUGE, HUGE]), [0, 0, -2 * HUGE, -2 * HUGE])
        for count in range(1, 7):
            table, row = any_table(count, 3), some_row(count, 3)
            self.assertEqual(added(less_row(table, row), row_table(row)), table)
            self.assertEqual(less_row(row_table(row), row), [0] * 2 ** count)

    def test_a_row_with_a_number_more_or_fewer_is_refused(self):
        for count in range(1, 7):
            for length in (0, count - 1, count + 1, count + 2):
                with self.subTest(count=count, length=length), self.assertRaises(Unlike):
                    less_row([0] * 2 ** count, [0] * length)


class MirrorTest(unittest.TestCase):
    def test_ordinary(self):
        self.assertEqual(mirror([0, 5]), [0, 5])
        self.assertEqual(mirror([0, 1, 2, 10]), [0, 8, 9, 10])
        self.assertEqual(mirror(THREE), [0, 1, 3, 5, 2, 4, 6, 9])
        self.assertEqual(mirror([0, HUGE, -HUGE, 1]), [0, 1 + HUGE, 1 - HUGE, 1])

    def test_word_by_word_and_back(self):
        for table in many_tables():
            costs = as_costs(table)
            whole = max(costs, key=len)
            told = mirror(table)
            self.assertEqual(as_costs(told), {hands: costs[whole] - costs[whole - hands] for hands in costs})
            self.assertEqual(mirror(told), table)


class KeptTest(unittest.TestCase):
    def test_kept_to(self):
        self.assertEqual(kept_to(THREE, 0b001), [0, 3])
        self.assertEqual(kept_to(THREE, 0b100), [0, 4])
        self.assertEqual(kept_to(THREE, 0b101), [0, 3, 4, 6])
        self.assertEqual(kept_to(THREE, 0b110), [0, 5, 4, 8])
        self.assertEqual(kept_to(THREE, 0b111), THREE)
        self.assertEqual(kept_to([0, -2], 1), [0, -2])

    def test_behind(self):
        self.assertEqual(behind(THREE, 0), THREE)
        self.assertEqual(behind(THREE, 0b001), [0, 4, 3, 6])
        self.assertEqual(behind(THREE, 0b010), [0, 2, 3, 4])
        self.assertEqual(behind(THREE, 0b011), [0, 2])
        self.assertEqual(behind(THREE, 0b110), [0, 1])
        self.assertEqual(behind([0, -2], 0), [0, -2])

    def test_long_numbers(self):
        table = [0, HUGE, -HUGE, 3]
        self.assertEqual(kept_to(table, 0b10), [0, -HUGE])
        self.assertEqual(behind(table, 0b10), [0, 3 + HUGE])

    def check_every_group(self, count):
        table = any_table(count, 5)
        costs = as_costs(table)
        for told in sets_of(count):
            mine, outside = sorted(told), sorted(set(range(count)) - told)
            if mine:
                kept = as_table(len(mine), lambda hands: costs[frozenset(mine[hand] for hand in hands)])
                self.assertEqual(kept_to(table, mask_of(told)), kept)
            if outside:
                rest = as_table(
                    len(outside), lambda hands: costs[told | {outside[hand] for hand in hands}] - costs[told]
                )
                self.assertEqual(behind(table, mask_of(told)), rest)

    def test_word_by_word(self):
        for count in range(1, 7):
            self.check_every_group(count)


class OrderTest(unittest.TestCase):
    def test_ordinary(self):
        self.assertEqual(by_numbers([0, 7], [0]), [0, 7])
        self.assertEqual(by_numbers([0, 1, 2, 3], [1, 0]), [0, 2, 1, 3])
        # New hand 0 is old hand 1, new hand 1 is old hand 2, new hand 2 is old hand 0.
        self.assertEqual(by_numbers(THREE, [1, 2, 0]), [0, 5, 4, 8, 3, 7, 6, 9])
        self.assertEqual(by_numbers(THREE, [0, 1, 2]), THREE)
        self.assertEqual(by_numbers([0, HUGE, -HUGE, 3], [1, 0]), [0, -HUGE, HUGE, 3])

    def test_word_by_word_and_back(self):
        for count in range(1, 6):
            table = any_table(count, 6)
            costs = as_costs(table)
            for order in itertools.permutations(range(count)):
                told = by_numbers(table, list(order))
                self.assertEqual(told, as_table(count, lambda hands: costs[frozenset(order[hand] for hand in hands)]))
                back = [order.index(hand) for hand in range(count)]
                self.assertEqual(by_numbers(told, back), table)

    def test_six_hands(self):
        table = any_table(6, 7)
        order = [3, 5, 0, 2, 1, 4]
        told = by_numbers(table, order)
        for group in range(64):
            self.assertEqual(told[group], table[mask_of(order[hand] for hand in set_of(group))])
        self.assertEqual(by_numbers(told, [2, 4, 3, 0, 5, 1]), table)


if __name__ == "__main__":
    unittest.main()
