"""[0.4] and [0.5]: what is handed in stays as it is, what is told is the asker's own, and kinds."""

import copy
import unittest

from groupcost.falling import break_of, falls, flat_row, rise_break, rises, two_break
from groupcost.masks import group_of, groups_in, hands_in, many_in, within
from groupcost.tables import (
    added, behind, by_numbers, everybody, hand_count, kept_to, less_row, mirror, row_gives, row_table, scaled, table_of,
)

THREE = [0, 3, 5, 7, 4, 6, 8, 9]
RISING = [0, 1, 3, 5, 2, 4, 6, 9]
NOUGHTS = [0] * 8
FLAT = [0, 4, -7, -3, 2, 6, -5, -1]

LIST_CALLS = [
    (hands_in, [0]), (hands_in, [5]), (hands_in, [63]),
    (groups_in, [0]), (groups_in, [5]), (groups_in, [63]),
    (table_of, [THREE]), (table_of, [[0, 0]]),
    (added, [THREE, RISING]), (added, [THREE, NOUGHTS]), (added, [NOUGHTS, THREE]), (added, [NOUGHTS, NOUGHTS]),
    (scaled, [1, THREE]), (scaled, [0, THREE]), (scaled, [-1, THREE]),
    (row_table, [[4]]), (row_table, [[4, -7, 2]]), (row_table, [[0, 0, 0]]),
    (less_row, [THREE, [0, 0, 0]]), (less_row, [THREE, [1, -2, 3]]),
    (mirror, [THREE]), (mirror, [FLAT]), (mirror, [[0, 5]]),
    (kept_to, [THREE, 7]), (kept_to, [THREE, 5]), (kept_to, [[0, 5], 1]),
    (behind, [THREE, 0]), (behind, [THREE, 5]), (behind, [[0, 5], 0]),
    (by_numbers, [THREE, [0, 1, 2]]), (by_numbers, [THREE, [2, 0, 1]]), (by_numbers, [[0, 5], [0]]),
    (flat_row, [FLAT]), (flat_row, [[0, 5]]),
]

NUMBER_CALLS = [
    (many_in, [0]), (many_in, [63]), (group_of, [[]]), (group_of, [[2, 0, 2]]),
    (hand_count, [[0, 0]]), (hand_count, [THREE]), (everybody, [[0, 0]]), (everybody, [THREE]),
    (row_gives, [[4, -7, 2], 0]), (row_gives, [[4, -7, 2], 1]), (row_gives, [[4, -7, 2], 7]),
]

TRUTH_CALLS = [
    (within, [1, 3], True), (within, [3, 1], False), (within, [0, 0], True),
    (falls, [THREE], True), (falls, [RISING], False), (rises, [THREE], False), (rises, [RISING], True),
    (two_break, [RISING, 1, 2], True), (two_break, [THREE, 1, 2], False),
]

BREAK_CALLS = [(break_of, [RISING]), (rise_break, [THREE])]
NONE_CALLS = [(break_of, [THREE]), (rise_break, [RISING]), (flat_row, [THREE])]


def every_call():
    return LIST_CALLS + NUMBER_CALLS + [call[:2] for call in TRUTH_CALLS] + BREAK_CALLS + NONE_CALLS


class HandedInTest(unittest.TestCase):
    def test_nothing_handed_in_is_changed(self):
        for function, handed in every_call():
            before = copy.deepcopy(handed)
            function(*handed)
            self.assertEqual(handed, before, function.__name__)

    def test_no_list_told_is_one_that_was_handed_in(self):
        for function, handed in LIST_CALLS:
            told = function(*handed)
            for given in handed:
                self.assertIsNot(told, given, function.__name__)

    def test_a_change_of_what_was_told_changes_nothing_handed_in(self):
        for function, handed in LIST_CALLS:
            before = copy.deepcopy(handed)
            told = function(*handed)
            told[:] = [99] * (len(told) + 1)
            self.assertEqual(handed, before, function.__name__)

    def test_a_change_of_what_was_handed_in_changes_nothing_told(self):
        for function, handed in LIST_CALLS:
            mine = copy.deepcopy(handed)
            told = function(*mine)
            before = list(told)
            for given in mine:
                if isinstance(given, list):
                    given[:] = [77] * len(given)
            self.assertEqual(told, before, function.__name__)

    def test_nothing_handed_in_is_kept(self):
        # The same list handed in again with other numbers has to be read anew.
        table = list(THREE)
        self.assertIsNone(break_of(table))
        table[7] = 40
        self.assertEqual(break_of(table), (1, 1, 2))
        self.assertEqual(mirror(table)[7], 40)


class ToldTest(unittest.TestCase):
    def test_what_was_told_and_changed_is_told_alike_again(self):
        for function, handed in LIST_CALLS:
            told = function(*handed)
            before = list(told)
            told.append(99)
            told[0] = 98
            again = function(*handed)
            self.assertEqual(again, before, function.__name__)
            self.assertIsNot(again, told, function.__name__)

    def test_all_is_told_alike_again(self):
        for function, handed in every_call():
            self.assertEqual(function(*handed), function(*handed), function.__name__)


class KindTest(unittest.TestCase):
    def test_lists_are_lists_of_whole_numbers(self):
        for function, handed in LIST_CALLS:
            told = function(*handed)
            self.assertIs(type(told), list, function.__name__)
            self.assertEqual({type(number) for number in told} - {int}, set(), function.__name__)

    def test_numbers_are_whole_numbers(self):
        for function, handed in NUMBER_CALLS:
            self.assertIs(type(function(*handed)), int, function.__name__)

    def test_true_and_false(self):
        for function, handed, expected in TRUTH_CALLS:
            self.assertIs(function(*handed), expected, function.__name__)

    def test_a_break_is_a_triple(self):
        for function, handed in BREAK_CALLS:
            told = function(*handed)
            self.assertIs(type(told), tuple, function.__name__)
            self.assertEqual([type(number) for number in told], [int, int, int], function.__name__)

    def test_none(self):
        for function, handed in NONE_CALLS:
            self.assertIsNone(function(*handed), function.__name__)


if __name__ == "__main__":
    unittest.main()
