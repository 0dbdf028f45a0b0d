"""[0.4] and [0.5]: what is handed in stays as it is, what is told is the asker's own, and kinds."""

import copy
import unittest

from groupcost.between import between, split_base
from groupcost.cheapest import cheapest, cheapest_groups, cost_with, entry_of, least_cost
from groupcost.examiner import answered, shown
from groupcost.fairest import density, fair_steps, fairest, shows_fairest
from groupcost.falling import break_of, falls, flat_row, rise_break, rises, two_break
from groupcost.fractions import fraction, fraction_less, fraction_sum, fraction_times
from groupcost.makers import bounded, from_covers, from_cuts, from_lines, from_steps
from groupcost.masks import group_of, groups_in, hands_in, many_in, within
from groupcost.means import all_orders, mean_row
from groupcost.mixes import is_mix, mix_row, mix_size, mixed
from groupcost.orders import by_order, raised
from groupcost.papers import made_for, shows_bar, shows_best, shows_between, shows_cheapest, shows_common
from groupcost.parting import common, fixed_hand, parting
from groupcost.prices import best_base, break_prices, is_best, price_chain, price_order, weight_of, worth_at
from groupcost.reading import Page, ask_of, number_in, read_page, table_named
from groupcost.report import answer_text, judged, paper_text, read_answer, read_paper, report
from groupcost.rings import is_ring, ring_groups, ring_of
from groupcost.shares import core_of, full_groups, is_base, is_under, over, room_of, way_room
from groupcost.tables import (
    added, behind, by_numbers, everybody, hand_count, kept_to, less_row, mirror, row_gives, row_table, scaled, table_of,
)

THREE = [0, 3, 5, 7, 4, 6, 8, 9]
RISING = [0, 1, 3, 5, 2, 4, 6, 9]
NOUGHTS = [0] * 8
FLAT = [0, 4, -7, -3, 2, 6, -5, -1]
BASE = [3, 4, 2]
FAIR = [(3, 1), (3, 1), (3, 1)]
ONES = [1, 1, 1]
TEXT = "hands a b c\ntable t\nsteps 5 3 2\nask falls t\nask common t t\nask best t 1 1 1\ntable u\neach 1 a"
PAGE = read_page(TEXT)
ASK = ("fairest", THREE, ONES)

# A kind is int, bool or None, a list of the one kind of what stands in it, or a tuple of the kinds of its places.
ROW = [int]
PAIR = (int, int)
TRIPLE = (int, int, int)
STEPS = [(int, PAIR)]
MIX = [(ROW, int)]
ASK_KINDS = (str, ROW, ROW)

CALLS = {
    hands_in: [([0], ROW), ([5], ROW), ([63], ROW)],
    many_in: [([0], int), ([63], int)],
    group_of: [([[]], int), ([[2, 0, 2]], int)],
    within: [([1, 3], bool), ([3, 1], bool), ([0, 0], bool)],
    groups_in: [([0], ROW), ([5], ROW), ([63], ROW)],
    table_of: [([THREE], ROW), ([[0, 0]], ROW)],
    hand_count: [([[0, 0]], int), ([THREE], int)],
    everybody: [([[0, 0]], int), ([THREE], int)],
    row_gives: [([[4, -7, 2], 0], int), ([[4, -7, 2], 1], int), ([[4, -7, 2], 7], int)],
    added: [([THREE, RISING], ROW), ([THREE, NOUGHTS], ROW), ([NOUGHTS, THREE], ROW), ([NOUGHTS, NOUGHTS], ROW)],
    scaled: [([1, THREE], ROW), ([0, THREE], ROW), ([-1, THREE], ROW)],
    row_table: [([[4]], ROW), ([[4, -7, 2]], ROW), ([[0, 0, 0]], ROW)],
    less_row: [([THREE, [0, 0, 0]], ROW), ([THREE, [1, -2, 3]], ROW)],
    mirror: [([THREE], ROW), ([FLAT], ROW), ([[0, 5]], ROW)],
    kept_to: [([THREE, 7], ROW), ([THREE, 5], ROW), ([[0, 5], 1], ROW)],
    behind: [([THREE, 0], ROW), ([THREE, 5], ROW), ([[0, 5], 0], ROW)],
    by_numbers: [([THREE, [0, 1, 2]], ROW), ([THREE, [2, 0, 1]], ROW), ([[0, 5], [0]], ROW)],
    break_of: [([RISING], TRIPLE), ([THREE], None)],
    rise_break: [([THREE], TRIPLE), ([RISING], None)],
    falls: [([THREE], bool), ([RISING], bool)],
    rises: [([THREE], bool), ([RISING], bool)],
    two_break: [([RISING, 1, 2], bool), ([THREE, 1, 2], bool)],
    flat_row: [([FLAT], ROW), ([[0, 5]], ROW), ([THREE], None)],
    from_covers: [([3, [(2, 5), (1, 0), (4, 7)]], ROW), ([2, []], ROW), ([1, [(0, 1)]], ROW)],
    from_cuts: [([3, [(0, 1, 4), (2, 0, 1)]], ROW), ([2, []], ROW), ([1, []], ROW)],
    from_steps: [([[5]], ROW), ([[5, 3, -2]], ROW), ([[0, 0]], ROW)],
    from_lines: [([[[1, 2], [2, 4], [0, 0]]], ROW), ([[[]]], ROW), ([[[0]]], ROW)],
    bounded: [([THREE, [50, 50, 50]], ROW), ([THREE, [-9, 2, 3]], ROW), ([[0, 5], [9]], ROW)],
    over: [([THREE, BASE], PAIR), ([THREE, [9, 9, 9]], PAIR), ([[0, 5], [5]], PAIR)],
    is_under: [([THREE, BASE], bool), ([THREE, [9, 9, 9]], bool)],
    is_base: [([THREE, BASE], bool), ([THREE, [0, 0, 0]], bool), ([THREE, [9, 9, 9]], bool)],
    room_of: [([THREE, BASE, 1], int), ([THREE, [0, 0, 0], 2], int), ([THREE, [9, 9, 9], 0], int)],
    way_room: [([THREE, BASE, 1, 0], int), ([THREE, [0, 0, 0], 2, 1], int), ([THREE, [9, 9, 9], 0, 2], int)],
    full_groups: [([THREE, BASE], ROW), ([THREE, [0, 0, 0]], ROW), ([[0, 5], [5]], ROW)],
    core_of: [([THREE, BASE, 1], int), ([THREE, [0, 0, 0], 1], None)],
    by_order: [([THREE, [2, 0, 1]], ROW), ([[0, 5], [0]], ROW), ([[0, 0, 1, 1], [0, 1]], ROW)],
    raised: [
        ([THREE, [0, 0, 0], [9, 2, 9]], ROW), ([THREE, [0, 0, 0], [9, 2, 9], [2, 1, 0]], ROW),
        ([THREE, BASE, [9, 9, 9], None], ROW), ([THREE, BASE, BASE], ROW),
        ([[0, 0, 1, 1], [0, 1], [0, 1], [0, 1]], ROW),
    ],
    price_order: [([[5]], ROW), ([[0, -1, -2]], ROW), ([[1, 5, 1]], ROW)],
    price_chain: [([[5]], [PAIR]), ([[4, 4]], [PAIR]), ([[1, 5, 7]], [PAIR])],
    worth_at: [([THREE, [1, 5, 7]], int), ([THREE, [0, 0, 0]], int)],
    weight_of: [([BASE, [1, 5, 7]], int), ([[0], [0]], int)],
    best_base: [([THREE, [1, 5, 7]], ROW), ([[0, 5], [5]], ROW)],
    is_best: [([THREE, [7, 5, 1], BASE], bool), ([THREE, [1, 5, 7], BASE], bool), ([THREE, BASE, [0, 0, 0]], bool)],
    break_prices: [([RISING], (ROW, ROW)), ([[0, 1, 1, 3]], (ROW, ROW)), ([THREE], None)],
    cost_with: [([THREE, [4, 1, -2], 5], int), ([[0, 5], [3], 0], int)],
    least_cost: [([THREE, [4, 1, -2]], int), ([RISING, [0, 0, 0]], int)],
    cheapest_groups: [([THREE, [4, 1, -2]], ROW), ([FLAT, [4, -7, 2]], ROW), ([[0, 5], [9]], ROW)],
    cheapest: [
        ([THREE, [4, 1, -2]], (int, int, ROW)), ([THREE, [0, 0, 0]], (int, int, ROW)),
        ([FLAT, [4, -7, 2]], (int, int, ROW)), ([[0, 5], [3]], (int, int, ROW)),
    ],
    entry_of: [([THREE, [4, 1, -2], 1], int), ([[0, 5], [3], 0], int)],
    is_ring: [([[0, 1, 3]], bool), ([[1, 2]], bool), ([[]], bool)],
    ring_of: [([[0, 1, 2, 3], 2], (int, int, ROW)), ([[1, 2], 2], (int, int, ROW)), ([[0], 1], (int, int, [None]))],
    ring_groups: [([(0, 3, [1, 2])], ROW), ([(1, 1, [1, None])], ROW)],
    parting: [([THREE, FLAT], PAIR), ([[0, 5], [0, 3]], PAIR), ([THREE, RISING], PAIR)],
    fixed_hand: [([THREE, 1, 5], ROW), ([THREE, 0, -9], ROW), ([[0, 5, 6, 8], 1, 6], ROW)],
    common: [
        ([THREE, FLAT], (ROW, int)), ([THREE, THREE], (ROW, int)), ([FLAT, NOUGHTS], (ROW, int)),
        ([[0, 5], [0, 3]], (ROW, int)),
    ],
    between: [
        ([RISING, THREE], (str, ROW)), ([FLAT, FLAT], (str, ROW)), ([RISING, FLAT], (str, int)),
        ([[0, 5], [0, 7]], (str, ROW)),
    ],
    split_base: [
        ([THREE, FLAT, [7, -3, 4]], (ROW, ROW)), ([THREE, NOUGHTS, BASE], (ROW, ROW)),
        ([NOUGHTS, THREE, BASE], (ROW, ROW)), ([NOUGHTS, NOUGHTS, [0, 0, 0]], (ROW, ROW)),
    ],
    fraction: [([6, -4], PAIR), ([0, 5], PAIR), ([3, 2], PAIR)],
    fraction_less: [([(1, 2), (1, 3)], bool), ([(1, 3), (1, 2)], bool), ([(1, 2), (1, 2)], bool)],
    fraction_sum: [([(1, 2), (-1, 2)], PAIR), ([(1, 2), (0, 1)], PAIR), ([(1, 2), (1, 3)], PAIR)],
    fraction_times: [([0, (1, 2)], PAIR), ([1, (1, 2)], PAIR), ([-4, (1, 2)], PAIR)],
    density: [([THREE, [2, 4, 1], 7], PAIR), ([THREE, [1, 1, 1], 6], PAIR), ([[0, 5], [5], 1], PAIR)],
    fair_steps: [
        ([THREE], STEPS), ([THREE, None], STEPS), ([THREE, [2, 4, 1]], STEPS), ([FLAT, [1, 1, 1]], STEPS),
        ([[0, 5], [5]], STEPS),
    ],
    fairest: [
        ([THREE], [PAIR]), ([THREE, None], [PAIR]), ([THREE, [2, 4, 1]], [PAIR]), ([FLAT, [1, 1, 1]], [PAIR]),
        ([[0, 5], [5]], [PAIR]),
    ],
    shows_fairest: [
        ([THREE, [1, 1, 1], FAIR, [(7, (3, 1))]], bool), ([THREE, [2, 1, 1], FAIR, [(7, (3, 1))]], bool),
        ([THREE, [1, 1, 1], FAIR, []], bool),
    ],
    mix_row: [([THREE, []], ROW), ([THREE, [([0, 1, 2], 1)]], ROW), ([THREE, [([0, 1, 2], 1), ([2, 1, 0], 5)]], ROW)],
    mix_size: [([[]], int), ([[([0, 1, 2], 1), ([2, 1, 0], 5)]], int)],
    is_mix: [
        ([THREE, BASE, [([0, 1, 2], 4)]], bool), ([THREE, BASE, [([0, 1, 2], 0)]], bool), ([THREE, BASE, []], bool),
    ],
    mixed: [([THREE, BASE], MIX), ([THREE, [3, 3, 3]], MIX), ([[0, 5], [5]], MIX), ([NOUGHTS, [0, 0, 0]], MIX)],
    all_orders: [([1], [ROW]), ([3], [ROW]), ([6], [ROW])],
    mean_row: [([THREE], ROW), ([RISING], ROW), ([[0, 5]], ROW)],
    shows_cheapest: [([THREE, [9, 9, 9], 7, 9, BASE], bool), ([THREE, [9, 9, 9], 7, 8, BASE], bool)],
    shows_best: [([THREE, ONES, 9, BASE], bool), ([THREE, ONES, 8, BASE], bool)],
    shows_common: [([THREE, THREE, 9, BASE, 7], bool), ([THREE, THREE, 9, BASE, 3], bool)],
    shows_between: [([NOUGHTS, THREE, BASE], bool), ([THREE, NOUGHTS, BASE], bool)],
    shows_bar: [([NOUGHTS, THREE, 3], bool), ([THREE, NOUGHTS, 3], bool)],
    made_for: [
        ([3, None], bool), ([3, ("dues", BASE)], bool), ([2, ("dues", BASE)], bool),
        ([3, ("mix", [([0, 1, 2], 1)])], bool), ([3, ("steps", [(8, (1, 1))])], bool),
    ],
    answered: [
        ([("falls", THREE)], (str, None)), ([("falls", RISING)], (str, (str, int, int))),
        ([("cheapest", THREE, [4, 1, -2])], (PAIR, (str, ROW))), ([("best", THREE, ONES)], (int, (str, ROW))),
        ([("base", THREE, BASE)], (str, (str, MIX))), ([("base", THREE, [9, 9, 9])], (str, (str, int))),
        ([("base", THREE, [0, 0, 0])], (str, (str,))), ([("common", THREE, FLAT)], (int, (str, ROW, int))),
        ([("between", RISING, THREE)], (str, (str, ROW))), ([("between", RISING, FLAT)], (str, (str, int))),
        ([ASK], ([PAIR], (str, STEPS))),
    ],
    shown: [
        ([("falls", THREE), "yes", None], bool), ([("base", THREE, BASE), "yes", ("mix", [([0, 1, 2], 1)])], bool),
        ([ASK, FAIR, ("steps", [(7, (3, 1))])], bool), ([ASK, FAIR, None], bool),
        ([("best", THREE, ONES), 9, ("base", BASE)], bool), ([("falls", THREE), "no", ("break", 1, 2)], bool),
    ],
    read_page: [([TEXT], Page), (["hands a"], Page)],
    number_in: [(["-12", 200], int), (["0", 1], int), (["01", 200], None)],
    table_named: [([PAGE, "t"], ROW), ([PAGE, "u"], ROW), ([PAGE, "v"], None)],
    ask_of: [
        ([PAGE, "falls t"], (str, ROW)), ([PAGE, "common t t"], ASK_KINDS), ([PAGE, "best t 1 1 1"], ASK_KINDS),
        ([PAGE, "between u t"], ASK_KINDS), ([PAGE, "fairest t 1 2 3"], ASK_KINDS),
    ],
    answer_text: [([PAGE, ASK, FAIR], str), ([PAGE, ("falls", THREE), "yes"], str)],
    paper_text: [([PAGE, None], str), ([PAGE, ("dues", BASE)], str), ([PAGE, ("mix", [([0, 1, 2], 1)])], str)],
    read_answer: [
        ([PAGE, ASK, "3/1 3/1 3/1"], [PAIR]), ([PAGE, ("falls", THREE), "yes"], str),
        ([PAGE, ("best", THREE, ONES), "9"], int), ([PAGE, ("cheapest", THREE, ONES), "{ a } 5"], PAIR),
    ],
    read_paper: [
        ([PAGE, "none"], None), ([PAGE, "sum"], (str,)), ([PAGE, "dues 1 1 1"], (str, ROW)),
        ([PAGE, "mix ( a b c ) 1 ( a b c ) 1"], (str, MIX)), ([PAGE, "both 1 1 1 { a }"], (str, ROW, int)),
        ([PAGE, "steps { a } 1/1 { a } 1/1"], (str, STEPS)), ([PAGE, "break { a } { }"], (str, int, int)),
    ],
    report: [([TEXT], str), (["hands a"], str)],
    judged: [([TEXT, "falls t > yes ; none"], [str]), ([TEXT, ""], [str]), ([TEXT, report(TEXT)], [str])],
}


def fits(kind, value):
    """Whether a value is of a kind; True and False are no numbers."""
    if kind is None:
        return value is None
    if isinstance(kind, list):
        return type(value) is list and all(fits(kind[0], part) for part in value)
    if isinstance(kind, tuple):
        return type(value) is tuple and len(value) == len(kind) and all(map(fits, kind, value))
    return type(value) is kind


def said_by(value):
    """What a page says, as a tuple that can be walked and compared; any other value as it is."""
    return (value.names, value.tables, value.asks) if isinstance(value, Page) else value


def lists_in(value):
    """All lists of a value, itself and those within it."""
    found = [value] if isinstance(value, list) else []
    value = said_by(value)
    if isinstance(value, (list, tuple)):
        for part in value:
            found += lists_in(part)
    return found


def scramble(value):
    """Changes all lists of a value."""
    for found in lists_in(value):
        found[:] = [99] * (len(found) + 1)


class OwnTest(unittest.TestCase):
    def for_each_call(self, check):
        for function, calls in CALLS.items():
            for handed, kind in calls:
                with self.subTest(function=function.__name__, handed=handed):
                    check(function, [copy.deepcopy(part) for part in handed], kind)

    def test_kinds(self):
        def check(function, handed, kind):
            told = function(*handed)
            self.assertTrue(fits(kind, told), told)

        self.for_each_call(check)

    def test_nothing_handed_in_is_changed(self):
        def check(function, handed, kind):
            before = copy.deepcopy(handed)
            function(*handed)
            self.assertEqual(list(map(said_by, handed)), list(map(said_by, before)))

        self.for_each_call(check)

    def test_no_list_told_is_one_handed_in_or_told_before_and_no_two_are_one(self):
        def check(function, handed, kind):
            before = function(*handed)
            lists = lists_in(handed) + lists_in(before) + lists_in(function(*handed))
            self.assertEqual(len({id(found) for found in lists}), len(lists))

        self.for_each_call(check)

    def test_a_change_of_what_was_told_changes_nothing_handed_in_and_nothing_told_later(self):
        def check(function, handed, kind):
            before = copy.deepcopy(handed)
            told = function(*handed)
            first = copy.deepcopy(told)
            scramble(told)
            self.assertEqual(list(map(said_by, handed)), list(map(said_by, before)))
            self.assertEqual(said_by(function(*handed)), said_by(first))

        self.for_each_call(check)

    def test_a_change_of_what_was_handed_in_changes_nothing_told(self):
        def check(function, handed, kind):
            told = function(*handed)
            first = copy.deepcopy(told)
            scramble(handed)
            self.assertEqual(said_by(told), said_by(first))

        self.for_each_call(check)

    def test_nothing_handed_in_is_kept(self):
        # The same list handed in again with other numbers has to be read anew.
        table = list(THREE)
        self.assertIsNone(break_of(table))
        table[7] = 40
        self.assertEqual(break_of(table), (1, 1, 2))
        self.assertEqual(mirror(table)[7], 40)


if __name__ == "__main__":
    unittest.main()
