"""[9.1] to [9.4]: asks answered, and the examiner who tells whether a paper shows an answer."""

import itertools
import random
import unittest
from fractions import Fraction

from groupcost.errors import NotFalling, NotRising
from groupcost.examiner import answered, shown
from groupcost.fairest import fair_steps, fairest
from groupcost.mixes import is_mix
from groupcost.orders import by_order
from groupcost.tables import row_table
from samples import (
    HUGE, any_table, as_costs, bases_of, bent_table, count_of, falling_tables, gives, long_table, many_tables,
    nudged, orders_of, rising_table, rows_around, set_of, sets_of, some_row, told_base, told_break, told_falls,
    told_rises, told_under,
)

TWO = [0, 5, 6, 8]
RISING = [0, 1, 2, 5]
NEITHER = [0, 5, 5, 6, 5, 6, 6, 9]

# An ask of two hands for each kind of answer, and what is told of it.
ASKS = [
    ("falls", TWO), ("falls", RISING), ("cheapest", TWO, [4, 9]), ("best", TWO, [1, 2]), ("base", TWO, [4, 4]),
    ("base", TWO, [6, 2]), ("base", TWO, [4, 3]), ("common", [0, 1, 9, 10], [0, 9, 2, 11]), ("between", RISING, TWO),
    ("between", [0, 6, 2, 9], TWO), ("fairest", TWO, [1, 3]),
]
ANSWERS = [
    "yes", "no", "", "maybe", "refused", 0, 1, 3, 8, 14, -5, True, False, None, (3, 8), (0, 8), (3, "8"), (3,),
    (3, 8, 8), [3, 8], (4, 8), (-1, 8), (True, 8), [(2, 1), (6, 1)], [(2, 1)], [(2, 1), (6, 1), (0, 1)],
    [(4, 2), (6, 1)], [(2, 1), 6], ((2, 1), (6, 1)), [], [2, 6], {}, ("yes",), ["yes"],
]
PAPERS = [
    None, ("break", 1, 2), ("break", 0, 3), ("dues", [4, 4]), ("dues", [2, 6]), ("base", [2, 6]), ("base", [4, 4]),
    ("group", 1), ("group", 2), ("group", 0), ("sum",), ("mix", []), ("mix", [([0, 1], 2), ([1, 0], 1)]),
    ("mix", [([0, 1], 1)]), ("both", [1, 2], 1), ("both", [4, 4], 3), ("row", [2, 3]), ("row", [4, 4]), ("bar", 1),
    ("bar", 3), ("bar", 0), ("steps", []), ("steps", [(3, (2, 1))]), ("steps", [(1, (2, 1)), (3, (6, 1))]),
]
BAD_PAPERS = [
    ("dues", [4, 4, 0]), ("dues", [8]), ("dues", []), ("base", [2, 6, 0]), ("base", [8]), ("group", 4), ("group", -1),
    ("break", 1, 4), ("break", -1, 2), ("mix", [([0], 1)]), ("mix", [([0, 0], 1)]), ("mix", [([0, 1, 1], 1)]),
    ("mix", [([0, 1], 2), ([1, 2], 1)]), ("both", [1, 2, 0], 1), ("both", [3], 1), ("both", [1, 2], 5),
    ("both", [1, 2], -3), ("row", [2, 3, 0]), ("row", [5]), ("bar", 4), ("bar", -3), ("steps", [(4, (2, 1))]),
    ("steps", [(-1, (2, 1))]), ("steps", [(3, (2, 2))]), ("steps", [(3, (4, 2))]), ("dues", (4, 4)), (), "none", "sum",
    ["sum"], ("none",), ("sum", 0), ("group", True), 0, ("yes",),
]


def asks_of(table, seed):
    """Asks of each kind of one table that falls, and of a second one where two are due."""
    count = count_of(table)
    other = bent_table(count, seed + 7)
    yield ("falls", table)
    yield ("falls", nudged(table, seed))
    yield ("cheapest", table, some_row(count, seed))
    yield ("best", table, some_row(count, seed + 1))
    yield ("base", table, some_row(count, seed + 2))
    yield ("base", table, by_order(table, orders_of(count)[seed % len(orders_of(count))]))
    yield ("base", table, [share - 1 for share in by_order(table, list(range(count)))])
    yield ("base", [2 * cost for cost in table], [
        one + two for one, two in zip(by_order(table, orders_of(count)[0]), by_order(table, orders_of(count)[-1]))
    ])
    yield ("common", table, other)
    yield ("between", rising_table(count, seed), table)
    yield ("between", [-100 * len(set_of(group)) for group in range(len(table))], table)
    yield ("fairest", table, [1] * count)
    yield ("fairest", table, some_row(count, seed + 3, 1, 6))


def all_asks():
    for seed, table in enumerate(falling_tables()):
        yield from asks_of(table, seed)


class AnsweredTest(unittest.TestCase):
    def test_falls(self):
        self.assertEqual(answered(("falls", TWO)), ("yes", None))
        self.assertEqual(answered(("falls", RISING)), ("no", ("break", 1, 2)))
        found = set()
        for table in many_tables():
            answer, paper = answered(("falls", table))
            found.add(answer)
            self.assertEqual(answer == "yes", told_falls(table) if len(table) < 64 else told_break(table) is None)
            if answer == "yes":
                self.assertIsNone(paper)
            else:
                self.assertEqual(answer, "no")
                kind, one, other = paper
                costs = as_costs(table)
                one, other = set_of(one), set_of(other)
                self.assertEqual(kind, "break")
                self.assertLess(costs[one] + costs[other], costs[one | other] + costs[one & other])
        self.assertEqual(found, {"yes", "no"})

    def test_cheapest(self):
        for seed, table in enumerate(falling_tables()):
            prices = some_row(count_of(table), seed)
            (group, cost), (kind, shares) = answered(("cheapest", table, prices))
            everyone = set_of(len(table) - 1)
            costs = [table[mask] + gives(prices, everyone - set_of(mask)) for mask in range(len(table))]
            self.assertEqual((kind, cost, costs[group]), ("dues", min(costs), min(costs)))
            self.assertTrue(told_under(table, shares))
            self.assertTrue(all(share <= price for share, price in zip(shares, prices)))
            self.assertEqual(sum(shares), cost)

    def test_best(self):
        for seed, table in enumerate(falling_tables()):
            prices = some_row(count_of(table), seed)
            number, (kind, shares) = answered(("best", table, prices))
            self.assertEqual(kind, "base")
            self.assertTrue(told_base(table, shares))
            self.assertEqual(sum(a * b for a, b in zip(shares, prices)), number)
            for order in orders_of(count_of(table))[::5]:
                self.assertLessEqual(sum(a * b for a, b in zip(by_order(table, order), prices)), number)

    def test_base(self):
        self.assertEqual(answered(("base", TWO, [5, 3])), ("yes", ("mix", [([0, 1], 1)])))
        self.assertEqual(answered(("base", TWO, [6, 2])), ("no", ("group", 1)))
        self.assertEqual(answered(("base", TWO, [5, 2])), ("no", ("sum",)))
        kinds = set()
        for table in falling_tables():
            if len(table) > 8:
                continue
            for shares in rows_around(count_of(table), -2, 5):
                answer, paper = answered(("base", table, shares))
                kinds.add(paper[0])
                self.assertEqual(answer, "yes" if told_base(table, shares) else "no")
                if answer == "yes":
                    self.assertEqual(paper[0], "mix")
                    self.assertTrue(is_mix(table, shares, paper[1]))
                elif paper[0] == "group":
                    self.assertGreater(gives(shares, set_of(paper[1])), table[paper[1]])
                else:
                    self.assertEqual(paper, ("sum",))
                    self.assertNotEqual(sum(shares), table[-1])
        self.assertEqual(kinds, {"mix", "group", "sum"})

    def test_common(self):
        for count in range(1, 7):
            for seed in range(4):
                one, other = bent_table(count, seed), bent_table(count, seed + 9)
                number, (kind, shares, group) = answered(("common", one, other))
                costs = [one[mask] + other[len(one) - 1 - mask] for mask in range(len(one))]
                self.assertEqual((kind, number, costs[group]), ("both", min(costs), min(costs)))
                self.assertTrue(told_under(one, shares) and told_under(other, shares))
                self.assertEqual(sum(shares), number)

    def test_between(self):
        self.assertEqual(answered(("between", [0, 3, 2, 5], [0, 3, 4, 7])), ("yes", ("row", [3, 2])))
        self.assertEqual(answered(("between", [0, 6, 2, 9], TWO)), ("no", ("bar", 1)))
        found = set()
        for seed, high in enumerate(falling_tables()):
            count = count_of(high)
            for much in (0, 10, 100):
                low = [cost - much * len(set_of(mask)) for mask, cost in enumerate(rising_table(count, seed))]
                answer, paper = answered(("between", low, high))
                found.add(answer)
                if answer == "yes":
                    given = [gives(paper[1], hands) for hands in sets_of(count)]
                    self.assertEqual(paper[0], "row")
                    self.assertTrue(all(a <= b <= c for a, b, c in zip(low, given, high)))
                else:
                    self.assertEqual((answer, paper[0]), ("no", "bar"))
                    self.assertGreater(low[paper[1]], high[paper[1]])
        self.assertEqual(found, {"yes", "no"})

    def test_fairest(self):
        for seed, table in enumerate(falling_tables()):
            for weights in ([1] * count_of(table), some_row(count_of(table), seed, 1, 4)):
                told = answered(("fairest", table, weights))
                self.assertEqual(told, (fairest(table, weights), ("steps", fair_steps(table, weights))))
        self.assertEqual(answered(("fairest", TWO, [1, 3])), ([(2, 1), (6, 1)], ("steps", [(3, (2, 1))])))

    def test_tables_that_do_not_fall_are_refused(self):
        found = 0
        for table in many_tables():
            if told_break(table) is None:
                continue
            found += 1
            count = count_of(table)
            good = bent_table(count, 1)
            for ask in (
                ("cheapest", table, [3] * count), ("best", table, [3] * count), ("base", table, [0] * count),
                ("base", table, [99] * count), ("base", table, by_order(table, list(range(count)))),
                ("common", table, good), ("common", good, table), ("common", table, table),
                ("between", [-cost for cost in good], table), ("fairest", table, [1] * count),
            ):
                with self.assertRaises(NotFalling):
                    answered(ask)
            self.assertEqual(answered(("falls", table))[0], "no")
        self.assertGreater(found, 20)

    def test_a_low_table_that_does_not_rise_is_refused_first(self):
        for high in (TWO, RISING, [0, -90, -90, -200], [0, -90, -90, -100]):
            with self.assertRaises(NotRising):
                answered(("between", TWO, high))
        for table in many_tables():
            if not told_rises(table):
                with self.assertRaises(NotRising):
                    answered(("between", table, table))

    def test_the_same_each_time(self):
        for ask in all_asks():
            self.assertEqual(answered(ask), answered(ask))


class ShownTest(unittest.TestCase):
    def test_what_is_told_is_shown(self):
        for ask in all_asks():
            answer, paper = answered(ask)
            self.assertIs(shown(ask, answer, paper), True, ask)

    def test_six_hands_and_long_numbers(self):
        for seed in range(2):
            for ask in asks_of(long_table(6, seed), seed):
                answer, paper = answered(ask)
                self.assertIs(shown(ask, answer, paper), True)
            prices = some_row(6, seed, -HUGE, HUGE)
            weights = some_row(6, seed, 1, HUGE)
            for ask in (
                ("cheapest", long_table(6, seed), prices), ("best", long_table(6, seed), prices),
                ("base", long_table(6, seed), prices), ("fairest", long_table(6, seed), weights),
                ("common", long_table(6, seed), long_table(6, seed + 5)),
            ):
                answer, paper = answered(ask)
                self.assertIs(shown(ask, answer, paper), True)

    def test_few_others_are_shown(self):
        # Of all these answers and papers the ones that show, ask by ask; what is told is shown besides.
        right = {
            0: [("yes", None)],
            1: [("no", ("break", 1, 2))],
            2: [((3, 8), ("dues", [4, 4])), ((3, 8), ("dues", [2, 6]))],
            3: [(14, ("base", [2, 6]))],
            4: [("yes", ("mix", [([0, 1], 2), ([1, 0], 1)]))],
            5: [("no", ("group", 1))],
            6: [("no", ("sum",))],
            7: [(3, ("both", [1, 2], 1))],
            8: [("yes", ("row", [2, 3])), ("yes", ("row", [4, 4]))],
            9: [("no", ("bar", 1)), ("no", ("bar", 3))],
            10: [([(2, 1), (6, 1)], ("steps", [(3, (2, 1))]))],
        }
        for place, ask in enumerate(ASKS):
            self.assertIs(shown(ask, *answered(ask)), True)
            found = []
            for answer, paper in itertools.product(ANSWERS, PAPERS + BAD_PAPERS):
                told = shown(ask, answer, paper)
                self.assertIn(told, (True, False))
                self.assertIs(type(told), bool)
                if told:
                    found.append((answer, paper))
            self.assertEqual(found, right[place], ask)

    def test_a_number_of_the_answer_one_more_or_one_less(self):
        for ask in all_asks():
            answer, paper = answered(ask)
            for much in (1, -1, HUGE):
                if ask[0] in ("best", "common"):
                    self.assertIs(shown(ask, answer + much, paper), False)
                if ask[0] == "cheapest":
                    self.assertIs(shown(ask, (answer[0], answer[1] + much), paper), False)
                if ask[0] == "fairest":
                    for place, (top, bottom) in enumerate(answer):
                        for other in (Fraction(top + much, bottom), Fraction(top, max(1, bottom + much))):
                            changed = list(answer)
                            changed[place] = (other.numerator, other.denominator)
                            self.assertIs(shown(ask, changed, paper), changed == answer)

    def test_yes_for_no_and_no_for_yes(self):
        for ask in all_asks():
            answer, paper = answered(ask)
            if answer in ("yes", "no"):
                self.assertIs(shown(ask, "no" if answer == "yes" else "yes", paper), False)
            self.assertIs(shown(ask, answer, None), ask[0] == "falls" and answer == "yes")

    def test_rows_too_long_and_too_short(self):
        for ask in all_asks():
            answer, paper = answered(ask)
            if paper is not None and paper[0] in ("dues", "base", "row", "both"):
                self.assertIs(shown(ask, answer, (paper[0], paper[1] + [0]) + paper[2:]), False)
                self.assertIs(shown(ask, answer, (paper[0], paper[1][:-1]) + paper[2:]), False)
            if ask[0] == "fairest":
                self.assertIs(shown(ask, answer + [(0, 1)], paper), False)
                self.assertIs(shown(ask, answer[:-1], paper), False)

    def test_rows_and_tables_of_an_ask_that_are_not_for_its_hands(self):
        self.assertIs(shown(("cheapest", TWO, [4, 9, 0]), (3, 8), ("dues", [4, 4])), False)
        self.assertIs(shown(("cheapest", TWO, [4]), (3, 8), ("dues", [4, 4])), False)
        self.assertIs(shown(("best", TWO, [1, 2, 0]), 14, ("base", [2, 6])), False)
        self.assertIs(shown(("base", TWO, [4, 4, 0]), "no", ("sum",)), False)
        self.assertIs(shown(("base", TWO, [4]), "no", ("sum",)), False)
        self.assertIs(shown(("common", TWO, [0, 5]), 8, ("both", [4, 4], 3)), False)
        self.assertIs(shown(("between", [0, 5], TWO), "yes", ("row", [5, 3])), False)
        self.assertIs(shown(("between", [0, 6], TWO), "no", ("bar", 1)), False)
        self.assertIs(shown(("fairest", TWO, [1, 3, 1]), [(2, 1), (6, 1)], ("steps", [(3, (2, 1))])), False)
        self.assertIs(shown(("fairest", TWO, [1]), [(2, 1), (6, 1)], ("steps", [(3, (2, 1))])), False)

    def test_weights_that_are_not_told(self):
        ask = ("fairest", TWO, None)
        self.assertEqual(answered(ask), ([(4, 1), (4, 1)], ("steps", [(3, (4, 1))])))
        self.assertIs(shown(ask, *answered(ask)), True)
        self.assertIs(shown(("best", TWO, None), 14, ("base", [2, 6])), False)

    def test_groups_beyond_the_hands(self):
        for ask in all_asks():
            answer, paper = answered(ask)
            for group in (len(ask[1]), -1, -len(ask[1])):
                if ask[0] == "cheapest":
                    self.assertIs(shown(ask, (group, answer[1]), paper), False)
                if paper is not None and paper[0] in ("group", "bar"):
                    self.assertIs(shown(ask, answer, (paper[0], group)), False)
                if paper is not None and paper[0] == "both":
                    self.assertIs(shown(ask, answer, (paper[0], paper[1], group)), False)

    def test_any_cheapest_group_is_shown(self):
        several = 0
        for seed, table in enumerate(falling_tables()):
            prices = some_row(count_of(table), seed)
            (_, cost), paper = answered(("cheapest", table, prices))
            everyone = set_of(len(table) - 1)
            found = 0
            for group in range(len(table)):
                least = table[group] + gives(prices, everyone - set_of(group)) == cost
                self.assertIs(shown(("cheapest", table, prices), (group, cost), paper), least)
                found += least
            several += found > 1
        self.assertGreater(several, 5)

    def test_yes_of_a_table_that_does_not_fall(self):
        # The mix is one of the shares, and they are a base; yet such a table's mixes show nothing.
        self.assertIsNotNone(told_break(NEITHER))
        mix = [([0, 1, 2], 1), ([1, 2, 0], 1), ([2, 0, 1], 1)]
        self.assertTrue(is_mix(NEITHER, [3, 3, 3], mix))
        self.assertTrue(told_base(NEITHER, [3, 3, 3]))
        self.assertIs(shown(("base", NEITHER, [3, 3, 3]), "yes", ("mix", mix)), False)
        self.assertIs(shown(("falls", NEITHER), "yes", None), False)

    def test_papers_that_others_made_of_tables_that_do_not_fall(self):
        self.assertIs(shown(("cheapest", RISING, [1, 1]), (0, 2), ("dues", [1, 1])), True)
        self.assertIs(shown(("best", NEITHER, [2, 2, 2]), 18, ("base", [3, 3, 3])), True)
        self.assertIs(shown(("base", RISING, [1, 2]), "no", ("sum",)), True)
        self.assertIs(shown(("base", RISING, [3, 2]), "no", ("group", 1)), True)
        self.assertIs(shown(("common", RISING, RISING), 3, ("both", [1, 2], 1)), True)
        self.assertIs(shown(("between", TWO, RISING), "no", ("bar", 1)), True)
        self.assertIs(shown(("between", [0, 0, 0, -1], RISING), "yes", ("row", [0, 0])), True)
        self.assertIs(shown(("fairest", NEITHER, [1, 1, 1]), [(3, 1)] * 3, ("steps", [(7, (3, 1))])), True)


def small_row(source, count):
    return [source.randint(-2, 3) for _ in range(count)]


def some_ask(source, table):
    count = count_of(table)
    kind = source.choice(("falls", "cheapest", "best", "base", "common", "between", "fairest"))
    if kind == "falls":
        return (kind, table)
    if kind in ("common", "between"):
        return (kind, table, any_table(count, source.randint(0, 50), -2, 3))
    low = 1 if kind == "fairest" else -2
    return (kind, table, [source.randint(low, 3) for _ in range(count)])


def some_claim(source, ask):
    """An answer and a paper of the kinds that the ask has, mostly wrong, at times right."""
    table, count = ask[1], count_of(ask[1])
    group, row = source.randrange(len(table)), small_row(source, count)
    if ask[0] == "falls":
        return source.choice((("yes", None), ("no", ("break", group, source.randrange(len(table))))))
    if ask[0] == "cheapest":
        return ((group, sum(row)), ("dues", row))
    if ask[0] == "best":
        return (sum(a * b for a, b in zip(row, ask[2])), ("base", row))
    if ask[0] == "base":
        order = source.choice(orders_of(count))
        papers = (("group", group), ("sum",), ("mix", [(order, 1)]))
        return (source.choice(("yes", "no")), source.choice(papers))
    if ask[0] == "common":
        return (sum(row), ("both", row, group))
    if ask[0] == "between":
        return (source.choice(("yes", "no")), source.choice((("row", row), ("bar", group))))
    density = Fraction(table[-1], sum(ask[2]))
    shares = [density * weight for weight in ask[2]]
    lowered = [(share.numerator, share.denominator) for share in shares]
    return (lowered, ("steps", [(len(table) - 1, (density.numerator, density.denominator))]))


class GainsaidTest(unittest.TestCase):
    """[9.4]: what is shown is so, held against all groups and all rows of small numbers."""

    def gainsaid(self, ask, answer):
        kind, table = ask[0], ask[1]
        count = count_of(table)
        rows = rows_around(count, -6, 6)
        if kind == "falls":
            return told_falls(table) != (answer == "yes")
        if kind == "base":
            return told_base(table, ask[2]) != (answer == "yes")
        if kind == "cheapest":
            everyone = set_of(len(table) - 1)
            costs = [table[mask] + gives(ask[2], everyone - set_of(mask)) for mask in range(len(table))]
            return answer[1] != min(costs) or costs[answer[0]] != min(costs)
        if kind == "best":
            return any(sum(a * b for a, b in zip(row, ask[2])) > answer for row in rows if told_base(table, row))
        if kind == "common":
            return any(sum(row) > answer for row in rows if told_under(table, row) and told_under(ask[2], row))
        if kind == "between":
            given = [[gives(row, hands) for hands in sets_of(count)] for row in rows]
            lies = any(all(a <= b <= c for a, b, c in zip(table, gifts, ask[2])) for gifts in given)
            return lies != (answer == "yes")
        told = sum(Fraction(*share) ** 2 / weight for share, weight in zip(answer, ask[2]))
        return any(
            sum(Fraction(share) ** 2 / weight for share, weight in zip(row, ask[2])) < told for row in bases_of(table)
        )

    def test_what_is_shown_is_so(self):
        source = random.Random("claims")
        found = {}
        for seed in range(2500):
            table = any_table(seed % 2 + 1, seed, -2, 3) if seed % 3 else bent_table(seed % 2 + 1, seed % 40)
            if seed % 5 == 0:
                table = row_table(small_row(source, seed % 2 + 1))
            ask = some_ask(source, table)
            for _ in range(12):
                answer, paper = some_claim(source, ask)
                if shown(ask, answer, paper):
                    broken = told_break(table) is not None
                    found[ask[0], broken] = found.get((ask[0], broken), 0) + 1
                    self.assertFalse(self.gainsaid(ask, answer), (ask, answer, paper))
        for kind in ("falls", "cheapest", "best", "base", "common", "between", "fairest"):
            self.assertGreater(found.get((kind, False), 0), 0, kind)
            if kind not in ("best", "fairest"):
                self.assertGreater(found.get((kind, True), 0), 0, kind)


if __name__ == "__main__":
    unittest.main()
