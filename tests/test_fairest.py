"""[7.2] and [7.3]: densities, the fairest shares, and the steps that show them."""

import itertools
import unittest
from fractions import Fraction

from groupcost.errors import NotFalling
from groupcost.fairest import density, fair_steps, fairest, shows_fairest
from groupcost.orders import by_order
from groupcost.tables import row_table
from samples import (
    HUGE, any_table, as_costs, as_table, bases_of, bent_table, count_of, falling_tables, gives, long_table,
    many_tables, mask_of, orders_of, set_of, some_row, told_break,
)

THREE = [0, 3, 5, 7, 4, 6, 8, 9]
EACH_A_STEP = [0, 1, 5, 6, 9, 10, 14, 15]


def pair_of(value):
    return (value.numerator, value.denominator)


def told_steps(table, weights):
    """[7.2] word by word, over sets of hands."""
    costs = as_costs(table)
    everyone = set_of(len(table) - 1)
    ahead, steps = frozenset(), []
    while ahead != everyone:
        found = {}
        for hands in costs:
            if hands and not hands & ahead:
                found[hands] = Fraction(costs[hands | ahead] - costs[ahead], gives(weights, hands))
        least = min(found.values())
        greatest = max((hands for hands in found if found[hands] == least), key=len)
        ahead = ahead | greatest
        steps.append((mask_of(ahead), pair_of(least)))
    return steps


def squares(shares, weights):
    return sum(Fraction(share) ** 2 / weight for share, weight in zip(shares, weights))


def by_weight(shares, weights):
    """The shares, each divided by its weight, the least first."""
    return sorted(Fraction(share) / weight for share, weight in zip(shares, weights))


def told_fair_base(table, shares):
    row = [Fraction(*share) for share in shares]
    costs = as_costs(table)
    return all(gives(row, hands) <= cost for hands, cost in costs.items()) and sum(row) == table[-1]


def with_weights():
    """Tables that fall, each with weights that are all 1 and with others."""
    for seed, table in enumerate(falling_tables()):
        count = count_of(table)
        yield table, [1] * count
        yield table, some_row(count, seed, 1, 5)


class DensityTest(unittest.TestCase):
    def test_ordinary(self):
        self.assertEqual(density(THREE, [1, 1, 1], 7), (3, 1))
        self.assertEqual(density(THREE, [1, 1, 1], 6), (4, 1))
        self.assertEqual(density(THREE, [2, 4, 1], 3), (7, 6))
        self.assertEqual(density(THREE, [2, 4, 1], 1), (3, 2))
        self.assertEqual(density([0, -6], [4], 1), (-3, 2))
        self.assertEqual(density([0, 0], [4], 1), (0, 1))

    def test_without_weights(self):
        self.assertEqual(density(THREE, None, 5), (3, 1))
        self.assertEqual(density(THREE, None, 3), (7, 2))

    def test_many_tables(self):
        signs = set()
        for seed, table in enumerate(many_tables()):
            weights = some_row(count_of(table), seed, 1, 9)
            for group in range(1, len(table)):
                told = density(table, weights, group)
                self.assertEqual(told, pair_of(Fraction(table[group], gives(weights, set_of(group)))))
                signs.add((told[0] > 0) - (told[0] < 0))
        self.assertEqual(signs, {-1, 0, 1})

    def test_long_numbers(self):
        self.assertEqual(density([0, HUGE, -HUGE, 3], [HUGE, HUGE - 1], 2), pair_of(Fraction(-HUGE, HUGE - 1)))
        self.assertEqual(density([0, HUGE, -HUGE, 3], [HUGE, HUGE - 1], 3), pair_of(Fraction(3, 2 * HUGE - 1)))


class StepsTest(unittest.TestCase):
    def test_all_hands_in_the_first_step(self):
        self.assertEqual(fair_steps(THREE), [(7, (3, 1))])
        self.assertEqual(fairest(THREE), [(3, 1), (3, 1), (3, 1)])
        for count in range(1, 7):
            table = as_table(count, lambda hands: 5 if hands else 0)
            self.assertEqual(fair_steps(table), [(2 ** count - 1, pair_of(Fraction(5, count)))])

    def test_a_step_for_each_hand(self):
        self.assertEqual(fair_steps(EACH_A_STEP), [(1, (1, 1)), (3, (5, 1)), (7, (9, 1))])
        self.assertEqual(fairest(EACH_A_STEP), [(1, 1), (5, 1), (9, 1)])
        row = [30, -20, 10, 0, -40, 50]
        self.assertEqual([group for group, _ in fair_steps(row_table(row))], [16, 18, 26, 30, 31, 63])
        self.assertEqual(fairest(row_table(row)), [(number, 1) for number in row])

    def test_ties_of_least_density(self):
        self.assertEqual(fair_steps(row_table([4, 4])), [(3, (4, 1))])
        self.assertEqual(fair_steps(row_table([4, 7, 4])), [(5, (4, 1)), (7, (7, 1))])
        self.assertEqual(fair_steps(row_table([7, 4, 4])), [(6, (4, 1)), (7, (7, 1))])
        self.assertEqual(fair_steps(row_table([2, 4, 6]), [1, 2, 3]), [(7, (2, 1))])
        self.assertEqual(fair_steps([0, 0, 0, 0]), [(3, (0, 1))])
        # Hand 0 alone and both hands have the density 3; hand 1 alone has 4.
        self.assertEqual(fair_steps([0, 3, 4, 6]), [(3, (3, 1))])
        self.assertEqual(fair_steps([0, 4, 3, 6]), [(3, (3, 1))])

    def test_one_hand(self):
        self.assertEqual(fair_steps([0, 7]), [(1, (7, 1))])
        self.assertEqual(fair_steps([0, -7], [2]), [(1, (-7, 2))])
        self.assertEqual(fairest([0, -7], [2]), [(-7, 1)])
        self.assertEqual(fairest([0, 0], [3]), [(0, 1)])

    def test_weights_change_the_shares(self):
        self.assertEqual(fairest([0, 9, 9, 12]), [(6, 1), (6, 1)])
        self.assertEqual(fairest([0, 9, 9, 12], [1, 2]), [(4, 1), (8, 1)])
        self.assertEqual(fairest([0, 9, 9, 12], [1, 6]), [(3, 1), (9, 1)])
        self.assertEqual(fair_steps([0, 9, 9, 12], [1, 6]), [(2, (3, 2)), (3, (3, 1))])
        self.assertEqual(fairest([0, 9, 9, 11]), [(11, 2), (11, 2)])

    def test_weights_told_none_and_left_out(self):
        for table in falling_tables():
            ones = [1] * count_of(table)
            self.assertEqual(fair_steps(table), fair_steps(table, ones))
            self.assertEqual(fair_steps(table, None), fair_steps(table, ones))
            self.assertEqual(fair_steps(table, weights=None), fair_steps(table, ones))
            self.assertEqual(fairest(table), fairest(table, ones))
            self.assertEqual(fairest(table, None), fairest(table, weights=ones))

    def test_word_by_word(self):
        lengths = set()
        for table, weights in with_weights():
            steps = told_steps(table, weights)
            self.assertEqual(fair_steps(table, weights), steps)
            lengths.add((count_of(table), len(steps)))
            shares = []
            for hand, weight in enumerate(weights):
                first = next(found for group, found in steps if hand in set_of(group))
                shares.append(pair_of(weight * Fraction(*first)))
            self.assertEqual(fairest(table, weights), shares)
        self.assertTrue({(1, 1), (2, 1), (2, 2), (3, 1), (3, 3), (4, 4), (6, 1)} <= lengths, lengths)

    def test_the_densities_grow(self):
        for table, weights in with_weights():
            fractions = [Fraction(*found) for _, found in fair_steps(table, weights)]
            self.assertTrue(all(one < other for one, other in zip(fractions, fractions[1:])))

    def test_six_hands_and_long_numbers(self):
        for seed in range(3):
            table = long_table(6, seed)
            for weights in ([1] * 6, [HUGE - 7 * hand for hand in range(6)], some_row(6, seed, 1, HUGE)):
                self.assertEqual(fair_steps(table, weights), told_steps(table, weights))
                self.assertTrue(told_fair_base(table, fairest(table, weights)))
                self.assertIs(
                    shows_fairest(table, weights, fairest(table, weights), fair_steps(table, weights)), True
                )

    def test_a_table_that_does_not_fall_is_refused(self):
        found = 0
        for table in many_tables() + [[0, 1, 1, 3]]:
            if told_break(table) is not None:
                found += 1
                for weights in ([1] * count_of(table), None):
                    with self.assertRaises(NotFalling):
                        fair_steps(table, weights)
                    with self.assertRaises(NotFalling):
                        fairest(table, weights)
        self.assertGreater(found, 20)


class FairestTest(unittest.TestCase):
    def test_a_base(self):
        for table, weights in with_weights():
            self.assertTrue(told_fair_base(table, fairest(table, weights)))

    def check_others(self, table, weights, others):
        """The fairest shares have the least sum of squares, and the least hands have most."""
        told = [Fraction(*share) for share in fairest(table, weights)]
        for other in others:
            if told == other:
                continue
            self.assertGreater(squares(other, weights), squares(told, weights))
            self.assertGreater(by_weight(told, weights), by_weight(other, weights))

    def test_each_other_base_by_an_order_is_less_fair(self):
        for table, weights in with_weights():
            count = count_of(table)
            orders = orders_of(count)[::1 if count < 5 else 17]
            self.check_others(table, weights, [by_order(table, order) for order in orders])

    def test_each_other_base_of_fractions_is_less_fair(self):
        for table, weights in with_weights():
            bases = [by_order(table, order) for order in orders_of(count_of(table))[::7]]
            told = [Fraction(*share) for share in fairest(table, weights)]
            for part in (Fraction(1, 2), Fraction(1, 1000)):
                mixes = [[part * one + (1 - part) * other for one, other in zip(base, told)] for base in bases]
                self.check_others(table, weights, mixes)

    def test_each_other_base_of_whole_numbers_is_less_fair(self):
        for table, weights in with_weights():
            if len(table) <= 8:
                self.check_others(table, weights, bases_of(table))


class ShowsTest(unittest.TestCase):
    def test_what_was_told(self):
        for table, weights in with_weights():
            self.assertIs(shows_fairest(table, weights, fairest(table, weights), fair_steps(table, weights)), True)
            self.assertIs(shows_fairest(table, None, fairest(table), fair_steps(table)), True)

    def test_a_base_but_not_the_fairest(self):
        # The steps fit neither; and with steps that fit the shares the fractions do not grow, or a group is not full.
        table = [0, 9, 9, 12]
        self.assertIs(shows_fairest(table, [1, 1], [(6, 1), (6, 1)], [(3, (6, 1))]), True)
        self.assertIs(shows_fairest(table, [1, 1], [(5, 1), (7, 1)], [(3, (6, 1))]), False)
        self.assertIs(shows_fairest(table, [1, 1], [(5, 1), (7, 1)], [(1, (5, 1)), (3, (7, 1))]), False)
        self.assertIs(shows_fairest(table, [1, 1], [(9, 1), (3, 1)], [(1, (9, 1)), (3, (3, 1))]), False)
        self.assertIs(shows_fairest(table, [1, 1], [(9, 1), (3, 1)], [(2, (3, 1)), (3, (9, 1))]), False)

    def test_a_row_that_is_no_base(self):
        # Group 1 and all hands are full, all else is right, but hand 1 is given more than it costs alone.
        table = [0, 1, 2, 6]
        self.assertIs(shows_fairest(table, [1, 1], [(1, 1), (5, 1)], [(1, (1, 1)), (3, (5, 1))]), False)
        self.assertIs(shows_fairest([0, 1, 5, 6], [1, 1], [(1, 1), (5, 1)], [(1, (1, 1)), (3, (5, 1))]), True)
        self.assertIs(shows_fairest([0, 1, 9, 7], [1, 1], [(1, 1), (5, 1)], [(1, (1, 1)), (3, (5, 1))]), False)
        self.assertIs(shows_fairest([0, 1, 9, 5], [1, 1], [(1, 1), (5, 1)], [(1, (1, 1)), (3, (5, 1))]), False)

    def test_a_group_that_is_not_given_what_it_costs(self):
        # A base, growing groups and fractions that fit it, but the group of the first step is not full.
        table = [0, 4, 9, 6]
        self.assertIs(shows_fairest(table, [1, 1], [(1, 1), (5, 1)], [(1, (1, 1)), (3, (5, 1))]), False)
        self.assertIs(shows_fairest(table, [1, 1], [(3, 1), (3, 1)], [(3, (3, 1))]), True)

    def test_fractions_that_do_not_grow(self):
        table = row_table([4, 4])
        shares = [(4, 1), (4, 1)]
        self.assertIs(shows_fairest(table, [1, 1], shares, [(3, (4, 1))]), True)
        self.assertIs(shows_fairest(table, [1, 1], shares, [(1, (4, 1)), (3, (4, 1))]), False)
        self.assertIs(shows_fairest(row_table([4, 3]), [1, 1], [(4, 1), (3, 1)], [(1, (4, 1)), (3, (3, 1))]), False)

    def test_steps_out_of_order(self):
        steps = fair_steps(EACH_A_STEP)
        for other in itertools.permutations(steps):
            self.assertIs(shows_fairest(EACH_A_STEP, None, fairest(EACH_A_STEP), list(other)), list(other) == steps)

    def test_groups_that_do_not_grow(self):
        steps = fair_steps(EACH_A_STEP)
        shares = fairest(EACH_A_STEP)
        self.assertIs(shows_fairest(EACH_A_STEP, None, shares, [(0, (0, 1))] + steps), False)
        self.assertIs(shows_fairest(EACH_A_STEP, None, shares, steps + [(7, (10, 1))]), False)
        self.assertIs(shows_fairest(EACH_A_STEP, None, shares, [steps[0], (1, (2, 1))] + steps[1:]), False)
        self.assertIs(shows_fairest(EACH_A_STEP, None, shares, [steps[0], (2, (5, 1)), steps[2]]), False)
        self.assertIs(shows_fairest(EACH_A_STEP, None, shares, [steps[0], (6, (5, 1)), steps[2]]), False)

    def test_the_last_one_not_all_hands_and_no_steps(self):
        for table, weights in with_weights():
            shares, steps = fairest(table, weights), fair_steps(table, weights)
            self.assertIs(shows_fairest(table, weights, shares, steps[:-1]), False)
            self.assertIs(shows_fairest(table, weights, shares, []), False)
            self.assertIs(shows_fairest(table, weights, shares, steps[:-1] + [(len(table), steps[-1][1])]), False)
            self.assertIs(shows_fairest(table, weights, shares, steps[:-1] + [(-1, steps[-1][1])]), False)
            beyond = (2 * len(table) - 1, (HUGE, 1))
            self.assertIs(shows_fairest(table, weights, shares, steps + [beyond]), False)

    def test_each_one_thing_changed(self):
        for table, weights in with_weights():
            shares, steps = fairest(table, weights), fair_steps(table, weights)
            for place in range(len(steps)):
                group, found = steps[place]
                changed = [(group, pair_of(Fraction(*found) + 1)), (group, pair_of(Fraction(*found) - 1))]
                changed += [(other, found) for other in range(len(table)) if other != group]
                for step in changed:
                    others = steps[:place] + [step] + steps[place + 1:]
                    self.assertIs(shows_fairest(table, weights, shares, others), False)
                self.assertIs(shows_fairest(table, weights, shares, steps[:place] + steps[place + 1:]), False)
            for place, share in enumerate(shares):
                for change in (Fraction(1), Fraction(-1), Fraction(1, 7)):
                    others = shares[:place] + [pair_of(Fraction(*share) + change)] + shares[place + 1:]
                    self.assertIs(shows_fairest(table, weights, others, steps), False)

    def test_shares_of_another_hand(self):
        self.assertIs(shows_fairest(EACH_A_STEP, None, [(5, 1), (1, 1), (9, 1)], fair_steps(EACH_A_STEP)), False)
        for table, weights in with_weights():
            shares, steps = fairest(table, weights), fair_steps(table, weights)
            for other in itertools.permutations(shares):
                self.assertIs(shows_fairest(table, weights, list(other), steps), list(other) == shares)
                if len(table) > 8:
                    break
            self.assertIs(shows_fairest(table, weights, shares + [(0, 1)], steps), False)
            self.assertIs(shows_fairest(table, weights, shares[:-1], steps), False)

    def test_other_weights(self):
        self.assertIs(shows_fairest([0, 9, 9, 12], [1, 2], [(4, 1), (8, 1)], [(3, (4, 1))]), True)
        self.assertIs(shows_fairest([0, 9, 9, 12], [2, 1], [(4, 1), (8, 1)], [(3, (4, 1))]), False)
        self.assertIs(shows_fairest([0, 9, 9, 12], [1, 1], [(4, 1), (8, 1)], [(3, (4, 1))]), False)

    def test_tables_that_do_not_fall(self):
        # Not falling: hand 0 with the two others adds more than with one of them.
        table = [0, 5, 5, 5, 5, 5, 5, 9]
        self.assertIsNotNone(told_break(table))
        self.assertIs(shows_fairest(table, None, [(3, 1)] * 3, [(7, (3, 1))]), False)
        table = [0, 5, 5, 6, 5, 6, 6, 9]
        self.assertIsNotNone(told_break(table))
        self.assertIs(shows_fairest(table, None, [(3, 1)] * 3, [(7, (3, 1))]), True)

    def test_what_is_shown_is_so_of_any_table(self):
        found = 0
        for count in range(1, 4):
            for seed in range(60):
                table = any_table(count, seed, 0, 6)
                weights = some_row(count, seed, 1, 2)
                steps = told_steps(table, weights)
                firsts = [next(f for group, f in steps if hand in set_of(group)) for hand in range(count)]
                shares = [pair_of(weight * Fraction(*first)) for weight, first in zip(weights, firsts)]
                grows = all(Fraction(*one[1]) < Fraction(*other[1]) for one, other in zip(steps, steps[1:]))
                right = grows and told_fair_base(table, shares)
                self.assertIs(shows_fairest(table, weights, shares, steps), right)
                if right and told_break(table) is not None:
                    found += 1
                    row = [Fraction(*share) for share in shares]
                    for base in bases_of(table):
                        self.assertGreaterEqual(squares(base, weights), squares(row, weights))
        self.assertGreater(found, 0)

    def test_long_fractions(self):
        # Bottoms of two thousand figures, as a paper may have them, in a time that one can wait for.
        bottoms = [10 ** 1999 + 2 * hand + 1 for hand in range(6)]
        shares = [pair_of(Fraction(1, bottom)) for bottom in bottoms]
        table = bent_table(6, 1)
        steps = [(2 ** (hand + 1) - 1, share) for hand, share in enumerate(reversed(shares))]
        self.assertIs(shows_fairest(table, None, list(reversed(shares)), steps), False)


if __name__ == "__main__":
    unittest.main()
