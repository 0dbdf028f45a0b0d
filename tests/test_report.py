"""[10.4] to [10.7]: answers and papers in words, the report on a page, and a report judged."""

import itertools
import unittest

from groupcost.errors import BadPaper, BadText
from groupcost.examiner import answered
from groupcost.reading import read_page
from groupcost.report import answer_text, judged, paper_text, read_answer, read_paper, report
from samples import HUGE, any_table, bent_table, orders_of, rising_table, some_row

LONGEST = "9" * 2000
TOO_LONG = "1" + "0" * 2000
NAMES = "ann bob cy dee eve fay".split()
PAGES = {count: read_page("hands " + " ".join(NAMES[:count])) for count in range(1, 7)}
THREE_PAGE = PAGES[3]

FALLS, CHEAPEST, BEST = ("falls", [0] * 8), ("cheapest", [0] * 8, [0] * 3), ("best", [0] * 8, [0] * 3)
BASE, COMMON = ("base", [0] * 8, [0] * 3), ("common", [0] * 8, [0] * 8)
BETWEEN, FAIREST = ("between", [0] * 8, [0] * 8), ("fairest", [0] * 8, [1] * 3)

# An ask of three hands, an answer, and how it is written.
ANSWERS = [
    (FALLS, "yes", "yes"), (FALLS, "no", "no"), (BASE, "yes", "yes"), (BASE, "no", "no"), (BETWEEN, "yes", "yes"),
    (BETWEEN, "no", "no"), (BEST, 0, "0"), (BEST, -17, "-17"), (COMMON, 5, "5"), (COMMON, -HUGE, str(-HUGE)),
    (BEST, int(LONGEST), LONGEST), (COMMON, -int(LONGEST), "-" + LONGEST), (CHEAPEST, (0, 0), "{ } 0"),
    (CHEAPEST, (5, -8), "{ ann cy } -8"), (CHEAPEST, (7, 12), "{ ann bob cy } 12"), (CHEAPEST, (2, 1), "{ bob } 1"),
    (CHEAPEST, (6, int(LONGEST)), "{ bob cy } " + LONGEST), (FAIREST, [(-3, 2), (4, 1), (0, 1)], "-3/2 4/1 0/1"),
    (FAIREST, [(1, int(LONGEST)), (-int(LONGEST), 1), (int(LONGEST), int(LONGEST) - 1)],
     f"1/{LONGEST} -{LONGEST}/1 {LONGEST}/{LONGEST[:-1]}8"),
]
# A paper for three hands, and how it is written.
PAPERS = [
    (None, "none"), (("break", 1, 6), "break { ann } { bob cy }"), (("break", 0, 7), "break { } { ann bob cy }"),
    (("dues", [0, -5, 12]), "dues 0 -5 12"), (("base", [1, 2, 3]), "base 1 2 3"),
    (("row", [-1, -2, -3]), "row -1 -2 -3"),
    (("row", [int(LONGEST), -int(LONGEST), 0]), f"row {LONGEST} -{LONGEST} 0"), (("group", 5), "group { ann cy }"),
    (("group", 0), "group { }"), (("sum",), "sum"), (("mix", []), "mix"),
    (("mix", [([2, 0, 1], 1)]), "mix ( cy ann bob ) 1"),
    (("mix", [([0, 1, 2], 17), ([1, 0, 2], HUGE), ([0, 1, 2], 3)]),
     f"mix ( ann bob cy ) 17 ( bob ann cy ) {HUGE} ( ann bob cy ) 3"),
    (("mix", [([0, 1, 2], int(LONGEST))]), f"mix ( ann bob cy ) {LONGEST}"),
    (("both", [1, -2, 3], 0), "both 1 -2 3 { }"), (("both", [0, 0, 0], 6), "both 0 0 0 { bob cy }"),
    (("bar", 7), "bar { ann bob cy }"), (("bar", 0), "bar { }"), (("steps", []), "steps"),
    (("steps", [(7, (-3, 2))]), "steps { ann bob cy } -3/2"),
    (("steps", [(1, (0, 1)), (5, (4, 1)), (0, (7, 5))]), "steps { ann } 0/1 { ann cy } 4/1 { } 7/5"),
    (("steps", [(7, (-int(LONGEST), 10 ** 1999))]), f"steps {{ ann bob cy }} -{LONGEST}/{10 ** 1999}"),
]
BAD_PAPERS = [
    "", " ", "none ", " none", "none none", "None", "no", "yes", "refused", "sum ", " sum", "sum 1", "sums", "Sum",
    "break",
    "break { }", "break { } { } { }", "break { ann } { bob", "break { ann } bob }", "break ann bob", "break 1 2",
    "break { ann } { dan }", "break  { ann } { bob }", "break { ann }  { bob }", "dues", "dues 1", "dues 1 2",
    "dues 1 2 3 4", "dues 1 2 03", "dues 1 2 -0", "dues 1 2 +3", "dues 1 2 a", "dues 1 2 3 ", "dues  1 2 3",
    "dues 1/1 2 3",
    f"dues 1 2 {TOO_LONG}", f"dues 1 2 -{TOO_LONG}", "base 1 2", "base 1 2 3 4", "base { ann }", "row 1 2",
    "row 1 2 3 4",
    "row", "group", "group ann", "group { ann", "group ann }", "group { ann } 1", "group { ann } { bob }",
    "group { cy ann }",
    "group { ann ann }", "group { ann cy bob }", "group { ann bob ann }", "group { Ann }", "group { dee }", "group {}",
    "group {ann}", "group { ann}", "group {  }", "group { ann  bob }", "group { }  ", "group ( ann )", "group 1",
    "group } {", "group { { ann } }", "bar", "bar ann", "bar { cy bob }", "bar { bob bob }", "bar { } { }", "bar 1 2 3",
    "mix ( ann bob cy )", "mix ( ann bob cy ) 0", "mix ( ann bob cy ) -1", "mix ( ann bob cy ) 01", "mix ( ann bob ) 1",
    "mix ( ann bob bob ) 1", "mix ( ann bob cy cy ) 1", "mix ( ann bob dee ) 1", "mix ( ) 1", "mix { ann bob cy } 1",
    "mix ann bob cy 1", "mix ( ann bob cy 1", "mix ( ann bob cy ) 1 2", "mix ( ann bob cy ) 1 ( ann bob cy )",
    "mix ( ann bob cy ) 1 ( bob ann ) 1", "mix ( ann bob cy ) 1/1", "mix 1", "mix ( 0 1 2 ) 1", "mix ",
    f"mix ( ann bob cy ) {TOO_LONG}", "mix ( ann bob cy ) ( bob ann cy ) 1", "both", "both 1 2 3", "both { ann }",
    "both 1 2 { ann }", "both 1 2 3 4 { ann }", "both { ann } 1 2 3", "both 1 2 3 { cy ann }", "both 1 2 3 { ann } 4",
    "both 1 2 3 { ann } { bob }", "steps { ann }", "steps 1/1", "steps { ann } 1", "steps { ann } 2/2",
    "steps { ann } 0/2",
    "steps { ann } 4/2", "steps { ann } 1/0", "steps { ann } 0/0", "steps { ann } 1/-2", "steps { ann } -1/-2",
    "steps { ann } -0/1", "steps { ann } 1/02", "steps { ann } 1/", "steps { ann } /2", "steps { ann } /",
    "steps { ann } 1/2/3", "steps { ann } 1 / 2", "steps { ann } 1//2", "steps { ann } 1/2 { bob }",
    "steps 1/2 { ann }",
    "steps { ann } 1/2 1/3", "steps { bob ann } 1/2", "steps { ann } 1/2 { cy ann } 2/3", "steps ( ann ) 1/2", "steps ",
    f"steps {{ ann }} 1/{TOO_LONG}", f"steps {{ ann }} {TOO_LONG}/1", "fairest 1/2", "ask falls t", "# none", "paper",
]
BAD_ANSWERS = {
    FALLS[0]: ["", " ", "Yes", "yes ", " yes", "yes yes", "no no", "maybe", "1", "refused", "none", "true", "yes none"],
    BEST[0]: ["", " ", "yes", "no", "-", "-0", "01", "+1", "1 ", " 1", "1 2", "1/1", TOO_LONG, "-" + TOO_LONG,
              "refused", "{ } 1", "\u0665", "1.0"],
    CHEAPEST[0]: ["", "yes", "5", "{ }", "{ } ", "{ } 1 2", "{ ann }", "{ cy ann } 1", "{ ann ann } 1", "{ dee } 1",
                  "{ ann } 01", "{ ann } -0", "{ ann 1", "ann 1", "{ ann } 1/1", "1 { ann }", "{} 1", "( ann ) 1",
                  "{ ann } " + TOO_LONG, "{ ann } 1 ", "{ ann }  1", "refused", "{ ann } { bob }"],
    FAIREST[0]: ["", "yes", "1/1", "1/1 1/1", "1/1 1/1 1/1 1/1", "1/1 1/1 1/1 ", "1/1  1/1 1/1", "1 1 1", "1/1 2/2 1/1",
                 "1/1 0/2 1/1", "1/1 1/0 1/1", "1/1 1/-1 1/1", "1/1 -0/1 1/1", "1/1 1/01 1/1", "1/1 /1 1/1",
                 f"1/1 1/{TOO_LONG} 1/1", "refused", "1/1 1/1 x"],
}
BAD_ANSWERS["base"] = BAD_ANSWERS["between"] = BAD_ANSWERS["falls"]
BAD_ANSWERS["common"] = BAD_ANSWERS["best"]


class WordsTest(unittest.TestCase):
    def test_answers_written_and_read(self):
        for ask, answer, row in ANSWERS:
            self.assertEqual(answer_text(THREE_PAGE, ask, answer), row)
            self.assertEqual(read_answer(THREE_PAGE, ask, row), answer)

    def test_papers_written_and_read(self):
        for paper, row in PAPERS:
            self.assertEqual(paper_text(THREE_PAGE, paper), row)
            self.assertEqual(read_paper(THREE_PAGE, row), paper)

    def test_rows_that_are_no_paper(self):
        for row in BAD_PAPERS:
            with self.subTest(row[:60]), self.assertRaises(BadPaper):
                read_paper(THREE_PAGE, row)

    def test_rows_that_are_no_answer(self):
        for ask in (FALLS, CHEAPEST, BEST, BASE, COMMON, BETWEEN, FAIREST):
            for row in BAD_ANSWERS[ask[0]]:
                with self.subTest(ask=ask[0], row=row[:60]), self.assertRaises(BadPaper):
                    read_answer(THREE_PAGE, ask, row)

    def test_answers_of_another_ask(self):
        forms = {"falls": 0, "base": 0, "between": 0, "best": 1, "common": 1, "cheapest": 2, "fairest": 3}
        for ask, (other, answer, row) in itertools.product(
            (FALLS, CHEAPEST, BEST, BASE, COMMON, BETWEEN, FAIREST), ANSWERS
        ):
            if forms[ask[0]] == forms[other[0]]:
                self.assertEqual(read_answer(THREE_PAGE, ask, row), answer)
            else:
                with self.assertRaises(BadPaper):
                    read_answer(THREE_PAGE, ask, row)

    def test_words_are_parted_by_one_blank(self):
        for paper, row in PAPERS[:-1]:
            for place, sign in enumerate(row[:200]):
                if sign == " ":
                    for other in (row[:place] + " " + row[place:], row[:place] + "\t" + row[place + 1:],
                                  row[:place] + "\n" + row[place + 1:]):
                        with self.assertRaises(BadPaper):
                            read_paper(THREE_PAGE, other)

    def test_one_hand_to_six(self):
        for count, page in PAGES.items():
            order = orders_of(count)[-1]
            written = {
                "group { " + " ".join(NAMES[:count]) + " }": ("group", 2 ** count - 1),
                "mix ( " + " ".join(reversed(NAMES[:count])) + " ) 4": ("mix", [(order, 4)]),
                "dues" + " -7" * count: ("dues", [-7] * count),
                "bar { " + NAMES[count - 1] + " }": ("bar", 2 ** (count - 1)),
            }
            for row, paper in written.items():
                self.assertEqual(paper_text(page, paper), row)
                self.assertEqual(read_paper(page, row), paper)
            for other, others in PAGES.items():
                if other < count:
                    for row in written:
                        with self.assertRaises(BadPaper):
                            read_paper(others, row)

    def test_what_is_told_is_written_and_read_back(self):
        for count, page in PAGES.items():
            for seed in range(3):
                table, other = bent_table(count, seed), bent_table(count, seed + 4)
                row = some_row(count, seed)
                for ask in (
                    ("falls", table), ("falls", any_table(count, seed)), ("cheapest", table, row), ("best", table, row),
                    ("base", table, row), ("base", [0] * 2 ** count, [0] * count), ("common", table, other),
                    ("between", rising_table(count, seed), table), ("fairest", table, some_row(count, seed, 1, 5)),
                ):
                    answer, paper = answered(ask)
                    self.assertEqual(read_answer(page, ask, answer_text(page, ask, answer)), answer)
                    self.assertEqual(read_paper(page, paper_text(page, paper)), paper)

    def test_as_many_pairs_as_one_likes(self):
        mix = ("mix", [(orders_of(3)[place % 6], place + 1) for place in range(2000)])
        self.assertEqual(read_paper(THREE_PAGE, paper_text(THREE_PAGE, mix)), mix)
        steps = ("steps", [(place % 8, (place, 1)) for place in range(2000)])
        self.assertEqual(read_paper(THREE_PAGE, paper_text(THREE_PAGE, steps)), steps)


PAGE = """# costs of three hands
hands ann bob cy
table work
cover 3 ann bob
cover 2 cy
each 1 bob
steps 5 3 -2
table more
group 4 ann bob cy
ask falls work
ask falls more
ask cheapest work 4 1 -2
ask best work 1 5 7

ask base work 6 7 -1
ask base work 1 1 1
ask base work 4 4 4
ask common work work
# a remark
ask between more work
ask between big work
ask fairest work 1 2 3
ask fairest more 1 2 3
ask between work more
ask common work more
""".replace("table more", "table big\nsteps 9 9 9\ntable more")


def parts_of(row):
    """The ask, the answer and the paper of a row of a report, as texts."""
    ask, rest = row.split(" > ")
    answer, paper = rest.split(" ; ")
    return ask, answer, paper


class ReportTest(unittest.TestCase):
    def test_all_seven_asks(self):
        rows = report(PAGE).split("\n")
        self.assertEqual(rows[0], "falls work > yes ; none")
        self.assertEqual(rows[1], "falls more > no ; break { ann bob } { ann cy }")
        self.assertEqual(rows[2], "cheapest work 4 1 -2 > { } 3 ; dues 4 1 -2")
        self.assertEqual(rows[3], "best work 1 5 7 > 82 ; base -2 7 7")
        self.assertEqual(rows[4], "base work 6 7 -1 > no ; group { ann bob }")
        self.assertEqual(rows[5], "base work 1 1 1 > no ; sum")
        self.assertTrue(rows[6].startswith("base work 4 4 4 > yes ; mix ( "), rows[6])
        self.assertTrue(rows[7].startswith("common work work > 12 ; both "), rows[7])
        self.assertTrue(rows[8].startswith("between more work > yes ; row "), rows[8])
        self.assertEqual(rows[9], "between big work > no ; bar { ann }")
        self.assertEqual(rows[10], "fairest work 1 2 3 > 2/1 4/1 6/1 ; steps { ann bob cy } 2/1")
        self.assertEqual(rows[11:], [
            "fairest more 1 2 3 > refused ; none", "between work more > refused ; none",
            "common work more > refused ; none",
        ])

    def test_the_rows_are_the_asks_words_the_answer_and_the_paper(self):
        page = read_page(PAGE)
        rows = report(PAGE).split("\n")
        self.assertEqual(len(rows), len(page.asks))
        for row, (words, ask) in zip(rows[:11], page.asks):
            answer, paper = answered(ask)
            self.assertEqual(row, f"{words} > {answer_text(page, ask, answer)} ; {paper_text(page, paper)}")

    def test_without_asks(self):
        self.assertEqual(report("hands a"), "")
        self.assertEqual(report("hands a b\ntable t\neach 5 a\n"), "")

    def test_one_ask(self):
        self.assertEqual(report("hands a\ntable t\nask falls t"), "falls t > yes ; none")
        self.assertEqual(report("hands a\ntable t\nask fairest t 3"), "fairest t 3 > 0/1 ; steps { a } 0/1")

    def test_remarks_and_empty_rows_change_nothing(self):
        rows = [row for row in PAGE.split("\n") if row and not row.startswith("#")]
        self.assertEqual(report("\n".join(rows)), report(PAGE))
        self.assertEqual(report("\n# x\n\n" + "\n#\n\n# y\n".join(rows) + "\n\n#"), report(PAGE))

    def test_an_ask_ahead_of_rows_that_add(self):
        self.assertEqual(report("hands a b\ntable t\nask falls t\ngroup 1 a b"), "falls t > no ; break { a } { b }")

    def test_between_refused_for_the_low_table_or_the_high_one(self):
        head = "hands a b\ntable up\ngroup 1 a b\ntable down\ngroup -1 a b\n"
        for words in ("between down down", "between down up", "between up up"):
            self.assertEqual(report(f"{head}ask {words}"), f"{words} > refused ; none")
        self.assertEqual(report(head + "ask between up down"), "between up down > no ; bar { a b }")

    def test_a_bad_page_is_refused(self):
        for text, row in (("", 2), ("hands", 1), ("hands a\ntable t\nask falls u", 3), ("hands a\n\nx", 3)):
            with self.assertRaises(BadText) as caught:
                report(text)
            self.assertEqual(caught.exception.row, row)

    def test_six_hands_and_long_numbers(self):
        long = "9" * 200
        names = " ".join(NAMES)
        numbers = " ".join(str(HUGE // (hand + 1) * (-1) ** hand) for hand in range(6))
        head = [f"hands {names}", "table one"]
        head += [f"cover {HUGE // (k + 3)} {NAMES[k]} {NAMES[(k + 2) % 6]}" for k in range(6)]
        head += [f"cut {HUGE // (k + 7)} {NAMES[k]} {NAMES[(k + 1) % 6]}" for k in range(6)]
        head += [f"each -{long} cy", f"each {long} ann"]
        head += ["table two", f"steps {long} {long} {HUGE} 5 0 -{long}"]
        asks = [
            "falls one", "falls two", f"cheapest one {numbers}", f"best two {numbers}", f"base one {numbers}",
            "common one two", "between two one", f"fairest one {numbers.replace('-', '')}",
            f"fairest two {numbers.replace('-', '')}",
        ]
        page = read_page("\n".join(head))
        # A base between those of orders, so that a long mix is due: the first hand takes less, the others more.
        table = page.tables[1][1]
        share = table[-1] // 6
        rest = " ".join([str(share)] * 5 + [str(table[-1] - 5 * share)])
        text = "\n".join(head + [f"ask {words}" for words in asks] + [f"ask base two {rest}"])
        rows = report(text)
        self.assertIn(f"base two {rest} > yes ; mix ", rows)
        told = judged(text, rows)
        self.assertEqual(set(told), {"shown", "refused"})
        self.assertEqual(told.count("refused"), 1)


class JudgedTest(unittest.TestCase):
    def test_what_report_told(self):
        self.assertEqual(judged(PAGE, report(PAGE)), ["shown"] * 11 + ["refused"] * 3)

    def test_the_empty_text(self):
        self.assertEqual(judged(PAGE, ""), [])
        self.assertEqual(judged("hands a", ""), [])
        self.assertEqual(judged("hands a", report("hands a")), [])

    def test_reports_of_many_pages(self):
        for count in range(1, 7):
            for seed in range(4):
                tables = {"s": bent_table(count, seed), "r": rising_table(count, seed), "x": any_table(count, seed)}
                rows = ["hands " + " ".join(NAMES[:count])]
                for name, table in tables.items():
                    rows.append(f"table {name}")
                    for mask in range(1, len(table)):
                        named = " ".join(NAMES[hand] for hand in range(count) if mask & 2 ** hand)
                        rows.append(f"group {table[mask]} {named}")
                numbers = " ".join(map(str, some_row(count, seed)))
                weights = " ".join(map(str, some_row(count, seed, 1, 4)))
                for name in tables:
                    rows += [f"ask falls {name}", f"ask cheapest {name} {numbers}", f"ask best {name} {numbers}",
                             f"ask base {name} {numbers}", f"ask fairest {name} {weights}"]
                    rows += [f"ask {kind} {name} {other}" for kind in ("common", "between") for other in tables]
                text = "\n".join(rows)
                page = read_page(text)
                self.assertEqual(dict(page.tables), tables)
                told = report(text)
                refused = [row.endswith("> refused ; none") for row in told.split("\n")]
                self.assertEqual(judged(text, told), ["refused" if bad else "shown" for bad in refused])
                self.assertIn(False, refused)

    def test_the_rows_may_stand_in_any_order_and_many_times(self):
        rows = report(PAGE).split("\n")
        self.assertEqual(judged(PAGE, "\n".join(reversed(rows))), ["refused"] * 3 + ["shown"] * 11)
        self.assertEqual(judged(PAGE, "\n".join([rows[0], rows[13], rows[0]])), ["shown", "refused", "shown"])

    def test_asks_that_the_page_has_not(self):
        self.assertEqual(judged("hands a b\ntable t\nsteps 5 3\ntable u", "\n".join([
            "falls t > yes ; none", "falls u > yes ; none", "best t 1 0 > 5 ; base 5 3",
            "common u t > 0 ; both 0 0 { a b }", "fairest t 1 1 > 4/1 4/1 ; steps { a b } 4/1",
        ])), ["shown"] * 5)

    def test_answers_and_papers_exchanged(self):
        rows = [parts_of(row) for row in report(PAGE).split("\n")[:11]]
        for one, other in itertools.permutations(rows, 2):
            ask, answer, paper = one
            told = judged(PAGE, f"{ask} > {answer} ; {other[2]}")
            self.assertEqual(told, ["shown" if paper == other[2] else "not shown"], (one, other))

    def test_a_number_changed(self):
        for row in (
            "cheapest work 4 1 -2 > { } 4 ; dues 4 1 -2", "cheapest work 4 1 -2 > { } 2 ; dues 4 1 -2",
            "cheapest work 4 1 -2 > { ann } 3 ; dues 4 1 -2", "cheapest work 4 1 -2 > { } 3 ; dues 4 1 -3",
            "cheapest work 4 1 -1 > { } 3 ; dues 4 1 -2", "best work 1 5 7 > 81 ; base -2 7 7",
            "best work 1 5 7 > 83 ; base -2 7 7", "best work 1 5 7 > 82 ; base -2 7 6",
            "best work 1 5 8 > 82 ; base -2 7 7",
            "base work 6 6 -1 > no ; group { ann bob }", "base work 6 7 -1 > no ; group { ann cy }",
            "base work 6 7 -1 > yes ; group { ann bob }", "base work 6 7 -1 > no ; sum", "base work 4 4 4 > no ; sum",
            "base work 4 4 4 > yes ; mix", "base work 4 4 4 > yes ; mix ( ann bob cy ) 1", "falls work > no ; none",
            "falls work > yes ; sum", "falls more > yes ; none", "falls more > no ; none",
            "falls more > no ; break { ann } { bob }", "fairest work 1 2 3 > 2/1 4/1 6/1 ; steps",
            "fairest work 1 2 3 > 2/1 4/1 6/1 ; steps { ann bob cy } 3/1",
            "fairest work 1 2 3 > 2/1 4/1 7/1 ; steps { ann bob cy } 2/1",
            "fairest work 1 1 1 > 2/1 4/1 6/1 ; steps { ann bob cy } 2/1", "between big work > no ; bar { }",
            "between big work > yes ; bar { ann }", "between more work > yes ; row 0 0 3",
            "common work work > 12 ; none", "common work work > 11 ; both -2 7 7 { }",
            "common work work > 12 ; both -2 7 7 { ann }",
        ):
            self.assertEqual(judged(PAGE, row), ["not shown"], row)

    def test_of_cheapest_any_cheapest_group(self):
        page = "hands a b\ntable t\neach 5 a\neach 6 b"
        for group in ("{ }", "{ a }"):
            self.assertEqual(judged(page, f"cheapest t 5 4 > {group} 9 ; dues 5 4"), ["shown"])
        for group in ("{ b }", "{ a b }"):
            self.assertEqual(judged(page, f"cheapest t 5 4 > {group} 9 ; dues 5 4"), ["not shown"])

    def test_refused_where_it_is_and_where_it_is_not(self):
        for ask, due in {
            "fairest more 1 2 3": "refused", "between work more": "refused", "common work more": "refused",
            "common more work": "refused", "cheapest more 1 2 3": "refused", "best more 1 2 3": "refused",
            "base more 1 2 3": "refused", "between work work": "refused", "between more more": "refused",
            "falls more": "not shown", "falls work": "not shown", "fairest work 1 2 3": "not shown",
            "between more work": "not shown", "cheapest work 1 2 3": "not shown", "base work 1 2 3": "not shown",
        }.items():
            self.assertEqual(judged(PAGE, f"{ask} > refused ; none"), [due], ask)
            for paper in ("sum", "mix", "dues 1 2 3", "steps", "group { }", "break { ann } { bob }"):
                self.assertEqual(judged(PAGE, f"{ask} > refused ; {paper}"), ["not shown"], ask)

    def test_what_is_shown_of_an_ask_that_is_refused(self):
        # The table does not fall, yet whoever made the paper is right.
        self.assertEqual(judged(PAGE, "cheapest more 0 0 0 > { } 0 ; dues 0 0 0"), ["shown"])
        self.assertEqual(judged(PAGE, "base more 0 0 0 > no ; sum"), ["shown"])

    def test_bad_rows(self):
        good = "falls work > yes ; none"
        for row in (
            "", " ", "#", "# words", "falls work", "falls work > yes", "falls work > yes ;", "falls work > yes ; ",
            "falls work > yes none", "falls work yes ; none", "falls work ; yes > none", "falls work > ; none",
            "falls work >  ; none", "> yes ; none", " > yes ; none", "yes ; none", "falls work >yes ; none",
            "falls work> yes ; none", "falls work > yes; none", "falls work > yes ;none", "falls work  > yes ; none",
            "falls work >  yes ; none", "falls work > yes  ; none", "falls work > yes ;  none",
            " falls work > yes ; none",
            "falls work > yes ; none ", "ask falls work > yes ; none", "falls word > yes ; none",
            "falls ann > yes ; none",
            "falls > yes ; none", "falls work more > yes ; none", "falls work > 5 ; none", "falls work > yes no ; none",
            "falls work > yes ; none ; none", "falls work > yes > yes ; none", "falls work > Yes ; none",
            "falls work > yes ; None", "falls work > yes ; break { ann }", "falls work > Refused ; none",
            "falls work > refused", "falls work > refused ; ", "falls work > refused ; refused",
            "best work 1 2 > 5 ; none",
            "best work 1 2 3 > yes ; none", "best work 1 2 03 > 5 ; none", "best work 1 2 3 > 5 ; base 1 2",
            f"best work 1 2 {'1' * 201} > 5 ; none", f"best work 1 2 3 > {TOO_LONG} ; none",
            f"best work 1 2 3 > 5 ; base 1 2 {TOO_LONG}", "fairest work 1 2 0 > 1/1 1/1 1/1 ; none",
            "fairest work 1 2 3 > 1/1 1/1 ; none", "cheapest work 1 2 3 > { dee } 5 ; none", "table work",
            "refused ; none",
        ):
            for text, number in (
                (row, 1), (f"{row}\n{good}", 1), (f"{good}\n{row}", 2), (f"{good}\n{good}\n{row}\n{good}", 3),
                (f"{good}\n{row}\n{row}", 2),
            ):
                if text == "":
                    continue
                with self.subTest(text[:80]), self.assertRaises(BadText) as caught:
                    judged(PAGE, text)
                self.assertEqual(caught.exception.row, number)
                self.assertIs(type(caught.exception.row), int)

    def test_a_line_feed_behind_the_last_row(self):
        with self.assertRaises(BadText) as caught:
            judged(PAGE, "falls work > yes ; none\n")
        self.assertEqual(caught.exception.row, 2)
        with self.assertRaises(BadText) as caught:
            judged(PAGE, "\n")
        self.assertEqual(caught.exception.row, 1)

    def test_rows_of_two_hundred_and_of_two_thousand_figures(self):
        long = "1" * 200
        self.assertEqual(judged(PAGE, f"best work 1 2 {long} > {LONGEST} ; base 1 2 -{LONGEST}"), ["not shown"])

    def test_the_page_is_read_first(self):
        for rows in ("", "wrong", "falls t > yes ; none\nwrong"):
            for page, number in (("", 2), ("hands a\ntable t\n\nwrong", 4)):
                with self.assertRaises(BadText) as caught:
                    judged(page, rows)
                self.assertEqual(caught.exception.row, number)

    def test_names_that_are_words_of_reports(self):
        page = "hands yes no none refused\ntable falls\nsteps 4 3 2 1\nask falls falls\nask cheapest falls 9 9 9 0"
        self.assertEqual(judged(page, report(page)), ["shown", "shown"])
        self.assertEqual(report(page).split("\n")[0], "falls falls > yes ; none")
        self.assertTrue(report(page).split("\n")[1].startswith("cheapest falls 9 9 9 0 > { yes no none } 9 ; dues "))


if __name__ == "__main__":
    unittest.main()
