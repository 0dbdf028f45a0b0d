"""[0.1], [0.2], [0.5]: what is a number, a row, a group, an order and a pair."""

import unittest

from groupcost.kinds import is_group, is_number, is_order, is_pair, is_row
from samples import HUGE, orders_of, rows_around

OTHERS = [None, "", "1", "yes", True, False, [], [1], (), (1,), (1, 2), {}, {1: 2}, 1.0]


class KindsTest(unittest.TestCase):
    def test_numbers(self):
        for value in (0, 1, -1, HUGE, -HUGE):
            self.assertIs(is_number(value), True)
        for value in OTHERS:
            self.assertIs(is_number(value), False, value)

    def test_rows(self):
        self.assertIs(is_row(2, [0, -5]), True)
        self.assertIs(is_row(1, [HUGE]), True)
        for value in OTHERS + [[1, 2, 3], (1, 2), [1, None], [True, 1], [1, "2"], [[1], 2]]:
            self.assertIs(is_row(2, value), False, value)

    def test_groups(self):
        for hands in range(1, 7):
            for value in (0, 1, 2 ** hands - 1):
                self.assertIs(is_group(hands, value), True)
            for value in OTHERS + [-1, -2 ** hands, 2 ** hands, HUGE]:
                self.assertIs(is_group(hands, value), False, value)

    def test_orders(self):
        for hands in range(1, 5):
            for row in rows_around(hands, -1, hands):
                self.assertIs(is_order(hands, row), row in orders_of(hands), row)
        for value in OTHERS + [[0], [0, 1, 2], (0, 1), [False, True], [0, "1"], [0, None]]:
            self.assertIs(is_order(2, value), False, value)

    def test_pairs(self):
        self.assertIs(is_pair((1, 2)), True)
        self.assertIs(is_pair(([], "a")), True)
        for value in (None, 1, "ab", [1, 2], (), (1,), (1, 2, 3)):
            self.assertIs(is_pair(value), False, value)


if __name__ == "__main__":
    unittest.main()
