"""[8.3]: all orders of the hands, and the mean of a table."""

import itertools
import math
import unittest

from groupcost.means import all_orders, mean_row
from groupcost.orders import by_order
from groupcost.tables import added, row_table
from samples import (
    HUGE, any_table, as_costs, as_table, count_of, falling_table, falling_tables, gives, long_table, many_tables,
    some_row,
)


class OrdersTest(unittest.TestCase):
    def test_few_hands(self):
        self.assertEqual(all_orders(1), [[0]])
        self.assertEqual(all_orders(2), [[0, 1], [1, 0]])
        self.assertEqual(
            all_orders(3), [[0, 1, 2], [0, 2, 1], [1, 0, 2], [1, 2, 0], [2, 0, 1], [2, 1, 0]],
        )

    def test_one_hand_to_six(self):
        for hands in range(1, 7):
            told = all_orders(hands)
            self.assertEqual(told, [list(order) for order in itertools.permutations(range(hands))])
            self.assertEqual(told, sorted(told))
            self.assertEqual(len(told), math.factorial(hands))


class MeanTest(unittest.TestCase):
    def test_ordinary(self):
        self.assertEqual(mean_row([0, 7]), [7])
        self.assertEqual(mean_row([0, 5, 6, 8]), [7, 9])
        self.assertEqual(mean_row([0, 1, 1, 3]), [3, 3])
        self.assertEqual(mean_row([0, 3, 5, 7, 4, 6, 8, 9]), [12, 24, 18])

    def test_word_by_word(self):
        for table in many_tables():
            count = count_of(table)
            if count < 6:
                shares = [by_order(table, list(order)) for order in itertools.permutations(range(count))]
                self.assertEqual(mean_row(table), [sum(column) for column in zip(*shares)])

    def test_the_sum(self):
        for table in many_tables():
            count = count_of(table)
            self.assertEqual(sum(mean_row(table)), math.factorial(count) * table[-1])
            self.assertEqual(len(mean_row(table)), count)

    def test_no_group_of_a_table_that_falls_is_given_more(self):
        for table in falling_tables():
            row = mean_row(table)
            for hands, cost in as_costs(table).items():
                self.assertLessEqual(gives(row, hands), math.factorial(count_of(table)) * cost)

    def test_the_mean_of_two_tables_added(self):
        for count in range(1, 7):
            for seed in range(3):
                one, other = falling_table(count, seed), any_table(count, seed)
                sums = [a + b for a, b in zip(mean_row(one), mean_row(other))]
                self.assertEqual(mean_row(added(one, other)), sums)

    def test_a_hand_that_adds_the_same_to_each_group(self):
        for count in range(2, 7):
            for hand in range(count):
                others = any_table(count, hand)
                table = as_table(count, lambda hands: others[sum(2 ** other for other in hands if other != hand)] +
                                 (-13 if hand in hands else 0))
                self.assertEqual(mean_row(table)[hand], -13 * math.factorial(count))
        for count in range(1, 7):
            row = some_row(count, 8)
            self.assertEqual(mean_row(row_table(row)), [math.factorial(count) * number for number in row])

    def test_two_hands_that_add_as_much(self):
        for count in range(2, 7):
            for one, other in itertools.combinations(range(count), 2):
                costs = any_table(count, count)

                def cost_of(hands):
                    # With just one of the two it is taken for the lesser one, so both add as much.
                    if (one in hands) != (other in hands):
                        hands = (hands - {other}) | {one}
                    return costs[sum(2 ** hand for hand in hands)]

                told = mean_row(as_table(count, cost_of))
                self.assertEqual(told[one], told[other])

    def test_six_hands_and_long_numbers(self):
        table = long_table(6, 4)
        self.assertEqual(sum(mean_row(table)), 720 * table[-1])
        self.assertEqual(mean_row([0, HUGE, -HUGE, 1]), [2 * HUGE + 1, 1 - 2 * HUGE])


if __name__ == "__main__":
    unittest.main()
