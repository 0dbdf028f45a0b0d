"""[2.3] to [2.5]: tables made of covers, cuts, steps and lines, and bounded tables."""

import itertools
import random
import unittest
from fractions import Fraction

from groupcost.errors import BadMaker
from groupcost.makers import bounded, from_covers, from_cuts, from_lines, from_steps
from samples import (
    HUGE, any_table, as_costs, as_table, count_of, falling_tables, gives, many_tables, set_of, some_row, told_break,
)


def places(right, wrong):
    """The list of right things with a wrong one at the first, a middle and the last place, and alone."""
    middle = len(right) // 2
    return [[wrong] + right, right[:middle] + [wrong] + right[middle:], right + [wrong], [wrong]]


class MakerTest(unittest.TestCase):
    def check_refused(self, maker, *told):
        with self.subTest(maker=maker.__name__, told=told), self.assertRaises(BadMaker):
            maker(*told)


class CoversTest(MakerTest):
    def test_ordinary(self):
        self.assertEqual(from_covers(1, [(3, 1)]), [0, 3])
        self.assertEqual(from_covers(2, [(3, 0b01), (4, 0b11)]), [0, 7, 4, 7])
        self.assertEqual(from_covers(3, [(3, 0b011), (10, 0b110)]), [0, 3, 13, 13, 10, 13, 13, 13])

    def test_no_covers(self):
        for hands in range(1, 7):
            self.assertEqual(from_covers(hands, []), [0] * 2 ** hands)

    def test_the_empty_group_as_a_cover_costs_nobody_anything(self):
        self.assertEqual(from_covers(2, [(5, 0)]), [0, 0, 0, 0])
        self.assertEqual(from_covers(2, [(5, 0), (1, 2), (7, 0)]), [0, 0, 1, 1])

    def test_a_cover_of_all_hands(self):
        for hands in range(1, 7):
            self.assertEqual(from_covers(hands, [(8, 2 ** hands - 1)]), [0] + [8] * (2 ** hands - 1))

    def test_a_cover_told_twice_counts_twice(self):
        self.assertEqual(from_covers(2, [(5, 1), (5, 1)]), [0, 10, 0, 10])

    def test_weights_of_nought_and_long_ones(self):
        self.assertEqual(from_covers(2, [(0, 3), (0, 1)]), [0, 0, 0, 0])
        self.assertEqual(from_covers(2, [(HUGE, 3), (HUGE, 1), (1, 2)]), [0, 2 * HUGE, HUGE + 1, 2 * HUGE + 1])

    def test_word_by_word(self):
        source = random.Random("covers")
        for hands in range(1, 7):
            for many in range(6):
                covers = [(source.randint(0, 9), source.randrange(2 ** hands)) for _ in range(many)]
                expected = as_table(hands, lambda group: sum(w for w, cover in covers if set_of(cover) & group))
                self.assertEqual(from_covers(hands, covers), expected)
                self.assertIsNone(told_break(expected))

    def test_a_number_of_hands_that_is_none(self):
        for hands in (0, 7, 8, -1, -6, HUGE, -HUGE):
            self.check_refused(from_covers, hands, [])
            self.check_refused(from_covers, hands, [(1, 1)])
            self.check_refused(from_covers, hands, [(1, 0)])

    def test_a_weight_below_nought(self):
        for weight in (-1, -5, -HUGE):
            for group in (0, 1, 7):
                for covers in places([(1, 1), (0, 7), (2, 6), (3, 0)], (weight, group)):
                    self.check_refused(from_covers, 3, covers)

    def test_a_group_that_the_hands_have_not(self):
        for hands in range(1, 7):
            right = [(1, 1), (2, 2 ** hands - 1), (0, 0), (4, 2 ** (hands - 1))]
            self.assertEqual(len(from_covers(hands, right)), 2 ** hands)
            for group in (2 ** hands, 2 ** hands + 1, -1, -2 ** hands, HUGE, -HUGE):
                for weight in (0, 3):
                    for covers in places(right, (weight, group)):
                        self.check_refused(from_covers, hands, covers)


class CutsTest(MakerTest):
    def test_ordinary(self):
        self.assertEqual(from_cuts(2, [(0, 1, 5)]), [0, 5, 0, 0])
        self.assertEqual(from_cuts(2, [(1, 0, 5)]), [0, 0, 5, 0])
        self.assertEqual(from_cuts(3, [(0, 2, 5), (1, 2, 1)]), [0, 5, 1, 6, 0, 0, 0, 0])

    def test_no_cuts(self):
        for hands in range(1, 7):
            self.assertEqual(from_cuts(hands, []), [0] * 2 ** hands)

    def test_a_cut_told_both_ways_and_twice(self):
        self.assertEqual(from_cuts(2, [(0, 1, 5), (1, 0, 5)]), [0, 5, 5, 0])
        self.assertEqual(from_cuts(2, [(0, 1, 5), (1, 0, 2), (0, 1, 5)]), [0, 10, 2, 0])

    def test_weights_of_nought_and_long_ones(self):
        self.assertEqual(from_cuts(2, [(0, 1, 0)]), [0, 0, 0, 0])
        self.assertEqual(from_cuts(2, [(0, 1, HUGE), (1, 0, HUGE), (0, 1, 1)]), [0, HUGE + 1, HUGE, 0])

    def test_word_by_word(self):
        source = random.Random("cuts")
        for hands in range(2, 7):
            for many in range(6):
                ends = [source.sample(range(hands), 2) for _ in range(many)]
                cuts = [(one, other, source.randint(0, 9)) for one, other in ends]
                expected = as_table(hands, lambda group: sum(w for a, b, w in cuts if a in group and b not in group))
                self.assertEqual(from_cuts(hands, cuts), expected)
                self.assertIsNone(told_break(expected))

    def test_a_number_of_hands_that_is_none(self):
        for hands in (0, 7, 8, -1, -6, HUGE, -HUGE):
            self.check_refused(from_cuts, hands, [])
            self.check_refused(from_cuts, hands, [(0, 1, 4)])

    def test_a_weight_below_nought(self):
        for weight in (-1, -5, -HUGE):
            for cuts in places([(0, 1, 3), (2, 0, 0), (1, 2, 2), (0, 1, 1)], (1, 2, weight)):
                self.check_refused(from_cuts, 3, cuts)

    def test_a_hand_that_is_none(self):
        for hands in range(2, 7):
            right = [(0, hands - 1, 3), (hands - 1, 0, 0), (1, 0, 2), (0, 1, 1)]
            self.assertEqual(len(from_cuts(hands, right)), 2 ** hands)
            for hand in (hands, hands + 1, -1, -hands, HUGE, -HUGE):
                for cut in ((hand, 0, 1), (0, hand, 1), (hand, hands - 1, 0), (hands - 1, hand, 0)):
                    for cuts in places(right, cut):
                        self.check_refused(from_cuts, hands, cuts)

    def test_the_two_hands_alike(self):
        for hand in range(3):
            for weight in (0, 4):
                for cuts in places([(0, 1, 3), (2, 0, 0), (1, 2, 2), (0, 1, 1)], (hand, hand, weight)):
                    self.check_refused(from_cuts, 3, cuts)
        self.check_refused(from_cuts, 1, [(0, 0, 1)])


class StepsTest(MakerTest):
    def test_ordinary(self):
        self.assertEqual(from_steps([5]), [0, 5])
        self.assertEqual(from_steps([5, 3]), [0, 5, 5, 8])
        self.assertEqual(from_steps([5, 3, -2]), [0, 5, 5, 8, 5, 8, 8, 6])

    def test_alike_and_of_either_sign(self):
        self.assertEqual(from_steps([-4]), [0, -4])
        self.assertEqual(from_steps([0, 0]), [0, 0, 0, 0])
        self.assertEqual(from_steps([-1, -1, -7]), [0, -1, -1, -2, -1, -2, -2, -9])
        self.assertEqual(from_steps([HUGE, -HUGE]), [0, HUGE, HUGE, 0])
        self.assertEqual(from_steps([3] * 6), as_table(6, lambda group: 3 * len(group)))

    def test_word_by_word(self):
        for count in range(1, 7):
            for seed in range(6):
                steps = sorted(some_row(count, seed), reverse=True)
                expected = as_table(count, lambda group: sum(steps[:len(group)]))
                self.assertEqual(from_steps(steps), expected)
                self.assertIsNone(told_break(expected))

    def test_no_steps_and_more_than_six(self):
        self.check_refused(from_steps, [])
        self.check_refused(from_steps, [7, 6, 5, 4, 3, 2, 1])
        self.check_refused(from_steps, [0] * 7)
        self.check_refused(from_steps, [0] * 64)

    def test_a_step_greater_than_the_one_ahead(self):
        self.check_refused(from_steps, [1, 2])
        self.check_refused(from_steps, [-2, -1])
        self.check_refused(from_steps, [HUGE, HUGE + 1])
        for count in range(2, 7):
            for place in range(1, count):
                steps = [10 - hand for hand in range(count)]
                self.assertEqual(len(from_steps(steps)), 2 ** count)
                steps[place] = steps[place - 1]
                self.assertEqual(len(from_steps(steps)), 2 ** count)
                steps[place] = steps[place - 1] + 1
                self.check_refused(from_steps, steps)


def rank(lines):
    """How many lines are free of one another, over fractions."""
    rows = [[Fraction(number) for number in line] for line in lines]
    count = 0
    for column in range(len(lines[0]) if lines else 0):
        lead = next((row for row in rows if row[column]), None)
        if lead is not None:
            rows.remove(lead)
            rows = [[a - b * row[column] / lead[column] for a, b in zip(row, lead)] for row in rows]
            count += 1
    return count


class LinesTest(MakerTest):
    def check_ranks(self, lines):
        expected = as_table(len(lines), lambda group: rank([lines[hand] for hand in sorted(group)]))
        self.assertEqual(from_lines(lines), expected)
        self.assertIsNone(told_break(expected))

    def test_ordinary(self):
        self.assertEqual(from_lines([[1, 0], [0, 1]]), [0, 1, 1, 2])
        self.assertEqual(from_lines([[1, 0], [0, 1], [1, 1]]), [0, 1, 1, 2, 1, 2, 2, 2])
        self.assertEqual(from_lines([[1, 2], [2, 4]]), [0, 1, 1, 1])
        self.assertEqual(from_lines([[1, 2], [-1, -2], [0, 5]]), [0, 1, 1, 1, 1, 2, 2, 2])

    def test_lines_of_no_numbers(self):
        for count in range(1, 7):
            self.assertEqual(from_lines([[] for _ in range(count)]), [0] * 2 ** count)

    def test_lines_of_noughts(self):
        self.assertEqual(from_lines([[0]]), [0, 0])
        self.assertEqual(from_lines([[0] * 6 for _ in range(6)]), [0] * 64)
        self.assertEqual(from_lines([[0, 0], [3, 1], [0, 0]]), [0, 0, 1, 1, 0, 0, 1, 1])

    def test_lines_of_one_number(self):
        self.assertEqual(from_lines([[3], [-5], [0]]), [0, 1, 1, 1, 0, 1, 1, 1])

    def test_one_a_sum_of_fractions_of_others(self):
        # The third line is two thirds of the first one and five sevenths of the second one.
        lines = [[3, 0, 6], [0, 7, 14], [2, 5, 14]]
        self.assertEqual(from_lines(lines), [0, 1, 1, 2, 1, 2, 2, 2])
        lines[2][2] = 15
        self.assertEqual(from_lines(lines), [0, 1, 1, 2, 1, 2, 2, 3])

    def test_lines_where_the_first_numbers_are_nought(self):
        self.assertEqual(from_lines([[0, 0, 1], [0, 2, 0], [3, 0, 0]]), [0, 1, 1, 2, 1, 2, 2, 3])
        self.assertEqual(from_lines([[0, 0, 4], [0, 0, 6], [0, 3, 1]]), [0, 1, 1, 1, 1, 2, 2, 2])
        self.assertEqual(from_lines([[0, 1], [0, 0], [1, 0]]), [0, 1, 0, 1, 1, 2, 1, 2])

    def test_long_numbers_are_not_rounded(self):
        self.assertEqual(from_lines([[HUGE, HUGE + 1], [HUGE + 1, HUGE + 2]]), [0, 1, 1, 2])
        self.assertEqual(from_lines([[HUGE, HUGE + 1], [HUGE, HUGE + 1]]), [0, 1, 1, 1])
        self.assertEqual(from_lines([[3, 3 * HUGE], [-7, -7 * HUGE]]), [0, 1, 1, 1])
        self.assertEqual(from_lines([[3, 3 * HUGE], [-7, -7 * HUGE + 1]]), [0, 1, 1, 2])

    def test_six_lines_of_six_long_numbers(self):
        source = random.Random("long lines")
        lines = [[source.randint(-HUGE, HUGE) for _ in range(6)] for _ in range(5)]
        lines.append([sum(numbers) for numbers in zip(lines[0], lines[2], lines[4])])
        self.check_ranks(lines)
        self.assertEqual(from_lines(lines)[63], 5)
        lines[5][3] += 1
        self.check_ranks(lines)
        self.assertEqual(from_lines(lines)[63], 6)

    def test_word_by_word(self):
        source = random.Random("lines")
        for count in range(1, 7):
            for length in range(7):
                for span in (1, 2):
                    self.check_ranks([[source.randint(-span, span) for _ in range(length)] for _ in range(count)])

    def test_no_lines_and_more_than_six(self):
        self.check_refused(from_lines, [])
        for length in (0, 1, 6):
            self.assertEqual(len(from_lines([[1] * length] * 6)), 64)
            self.check_refused(from_lines, [[1] * length] * 7)

    def test_lines_of_unlike_lengths(self):
        for length in range(7):
            for wrong in (length - 1, length + 1):
                if wrong >= 0:
                    for lines in places([[1] * length for _ in range(4)], [1] * wrong)[:3]:
                        self.check_refused(from_lines, lines)
        self.check_refused(from_lines, [[], [0]])
        self.check_refused(from_lines, [[0], []])

    def test_lines_of_more_than_six_numbers(self):
        self.assertEqual(from_lines([[1] * 6]), [0, 1])
        for count in range(1, 7):
            self.check_refused(from_lines, [[1] * 7 for _ in range(count)])
            self.check_refused(from_lines, [[0] * 20 for _ in range(count)])
        for lines in places([[1] * 6 for _ in range(4)], [1] * 7):
            self.check_refused(from_lines, lines)


def told_bounded(table, row):
    """[2.5] word by word, over all groups T within S."""
    costs = as_costs(table)
    count = len(row)

    def cost_of(hands):
        parts = itertools.chain.from_iterable(itertools.combinations(sorted(hands), k) for k in range(len(hands) + 1))
        return min(costs[frozenset(part)] + gives(row, hands - set(part)) for part in parts)

    return as_table(count, cost_of)


def rows_for(table):
    """Rows far above, near and far below the costs of a table."""
    count = count_of(table)
    near = [some_row(count, seed) for seed in range(2)]
    mixed = [100 if hand % 2 else -100 for hand in range(count)]
    return near + [[1000] * count, [0] * count, [-1000] * count, mixed]


class BoundedTest(unittest.TestCase):
    def test_ordinary(self):
        self.assertEqual(bounded([0, 5], [3]), [0, 3])
        self.assertEqual(bounded([0, 5], [8]), [0, 5])
        self.assertEqual(bounded([0, 5, 5, 8], [4, 2]), [0, 4, 2, 6])
        self.assertEqual(bounded([0, 5, 5, 8], [9, 2]), [0, 5, 2, 7])
        self.assertEqual(bounded([0, 5, 5, 8], [9, 4]), [0, 5, 4, 8])

    def test_far_above_it_is_the_table_kept_low(self):
        # A group may cost less by a part of it only where the table or the row is below nought.
        self.assertEqual(bounded([0, 3, 5, 7, 4, 6, 8, 9], [50, 50, 50]), [0, 3, 5, 7, 4, 6, 8, 9])

    def test_far_below_it_is_the_rows_table(self):
        self.assertEqual(bounded([0, 3, 5, 7], [-50, -60]), [0, -50, -60, -110])

    def test_long_numbers(self):
        self.assertEqual(bounded([0, HUGE, HUGE, HUGE + 1], [HUGE - 1, HUGE]), [0, HUGE - 1, HUGE, HUGE + 1])
        self.assertEqual(bounded([0, HUGE, -HUGE, HUGE], [-HUGE, -HUGE]), [0, -HUGE, -HUGE, -2 * HUGE])

    def test_word_by_word(self):
        for table in many_tables()[::2] + [any_table(6, 50)]:
            for row in rows_for(table):
                self.assertEqual(bounded(table, row), told_bounded(table, row))

    def test_where_the_table_falls_the_bounded_one_falls(self):
        for table in falling_tables():
            for row in rows_for(table):
                told = bounded(table, row)
                self.assertIsNone(told_break(told))
                self.assertEqual(told[0], 0)
                for hands, cost in as_costs(told).items():
                    self.assertLessEqual(cost, as_costs(table)[hands])
                    self.assertLessEqual(cost, gives(row, hands))


if __name__ == "__main__":
    unittest.main()
