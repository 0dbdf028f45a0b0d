"""[10.1] to [10.3]: pages, their numbers, names, tables and asks, and the rows that are refused."""

import unittest

from groupcost.errors import BadAsk, BadText
from groupcost.reading import Page, ask_of, number_in, read_page, table_named
from groupcost.tables import added, scaled
from samples import HUGE, as_table

LONGEST = "9" * 200
TOO_LONG = "1" + "0" * 200
HANDS = "hands a b c"

# Rows that may stand behind the row of the hands a, b, c and `table t`.
GOOD_ROWS = [
    "", "#", "# some words", "#group", "table u", "group 5 a", "group -5 c b a", "group 0 b", "each 4 b", "each -4 a",
    "cover 3 a", "cover 0 c a", "cover 3 a b c", "cut 2 a b", "cut 0 c a", "steps 5 3 -2", "steps 0 0 0", "ask falls t",
    "ask cheapest t 1 -2 0", "ask best t 1 -2 0", "ask base t 1 -2 0", "ask common t t", "ask between t t",
    "ask fairest t 1 2 3", f"group {LONGEST} a", f"group -{LONGEST} a", f"ask fairest t 1 1 {LONGEST}",
]
# Rows that may not.
BAD_ROWS = [
    " ", "  ", " #", "\t", "\r", "hands", "hands a b c", "hands d", "Hands a", "a", "t", "table", "table t", "table T",
    "table u v", "table u1", "table u ", "table  u", " table u", "table abcdefghi", "table u#", "table u # words",
    "tables u", "group", "group 5", "group a", "group a 5", "group 5 d", "group 5 a a", "group 5 a b a", "group 5 A",
    "group 5 a ", "group 5  a", " group 5 a", "group  5 a", "group 5\ta", "group 5 a\t", "group 5 t", "group five a",
    "group +5 a", "group 05 a", "group -0 a", "group 00 a", "group 5.0 a", "group 5 5 a", "group 5 a 5", "group - a",
    "group \u0665 a", "group \u00b2 a", f"group {TOO_LONG} a", f"group -{TOO_LONG} a", "Group 5 a", "GROUP 5 a",
    "each 4", "each", "each 4 a b", "each 4 d", "each a", "each 04 a", "cover", "cover 3", "cover -1 a", "cover 3 a a",
    "cover 3 d", "cover a", "cover 03 a", "cut", "cut 2", "cut 2 a", "cut 2 a a", "cut -1 a b", "cut 2 a b c",
    "cut 2 a d", "cut a b", "steps", "steps 5", "steps 5 3", "steps 5 3 2 1", "steps 3 5 2", "steps 5 3 4",
    "steps a b c",
    "steps 5 3 -0", "steps 5 3 2 ", f"steps {TOO_LONG} 0 0", "ask", "ask ", "ask  falls t", " ask falls t", "ask falls",
    "ask falls u", "ask falls T", "ask falls a", "ask falls t t", "ask falls t 1 2 3", "ask falls t ", "ask Falls t",
    "ask fall t", "ask t", "ask cheapest t", "ask cheapest t 1 2", "ask cheapest t 1 2 3 4", "ask cheapest u 1 2 3",
    "ask cheapest 1 2 3", "ask cheapest t 1 a 3", "ask cheapest t 1 2 03", "ask best t 1 2", "ask best t 1 2 3 4",
    "ask base t 1 2", "ask base t 1 2 3 4", f"ask base t 1 2 {TOO_LONG}", "ask common t", "ask common t u",
    "ask common u t", "ask common t t t", "ask between t", "ask between u t", "ask between t u", "ask between t t 1",
    "ask fairest t", "ask fairest t 1 2", "ask fairest t 1 2 0", "ask fairest t 1 -2 3", "ask fairest t 0 1 1",
    "ask fairest t 1 2 3 4", "falls t", "ask ask falls t", "yes", "row 1 2 3", "none", "refused",
]


def bad_row(text):
    """The row that a page is refused for, or None where it is read."""
    try:
        read_page(text)
    except BadText as refusal:
        return refusal.row
    return None


def only_table(rows, hands="a b c"):
    """The one table of a page of some rows that add."""
    return read_page("\n".join([f"hands {hands}", "table t"] + rows)).tables[0][1]


class NumberTest(unittest.TestCase):
    def test_numbers(self):
        for word, number in {
            "0": 0, "1": 1, "7": 7, "10": 10, "907": 907, "-1": -1, "-10": -10, "-9": -9, "100": 100,
            LONGEST: 10 ** 200 - 1,
            "-" + LONGEST: 1 - 10 ** 200,
        }.items():
            told = number_in(word, 200)
            self.assertEqual(told, number)
            self.assertIs(type(told), int)

    def test_words_that_write_none(self):
        for word in (
            "", "-", "--1", "-0", "00", "01", "-01", "000", "-00", "+1", "+0", "1-", "1 ", " 1", "1 2", "1\n", "\n1",
            "1\t",
            "1_000", "1.0", "1/2", "1e3", "0x1", "a", "a1", "1a", "\u0661", "\u0967", "1\u0661", "\u00b2", "\u00bd",
            "\uff11", "\u22121", "\u4e00", "True", "None", "#1",
        ):
            self.assertIsNone(number_in(word, 200), word)

    def test_at_most_so_many_figures(self):
        for figures in (1, 2, 3, 200, 2000):
            for sign, times in (("", 1), ("-", -1)):
                self.assertEqual(number_in(sign + "7" * figures, figures), times * int("7" * figures))
                self.assertIsNone(number_in(sign + "7" * (figures + 1), figures))
                self.assertEqual(number_in(sign + "5", figures), times * 5)
        self.assertIsNone(number_in(TOO_LONG, 200))
        self.assertIsNone(number_in("-" + TOO_LONG, 200))


class HandsTest(unittest.TestCase):
    def test_names(self):
        for names in (["a"], ["abcdefgh"], ["a", "b"], ["z", "zz", "zzz"], ["f", "e", "d", "c", "b", "a"]):
            page = read_page("hands " + " ".join(names))
            self.assertIsInstance(page, Page)
            self.assertEqual((page.names, page.tables, page.asks), (names, [], []))

    def test_names_that_are_words_of_rows(self):
        page = read_page("hands hands table ask group none\ntable table\ngroup 5 group ask\nask falls table\n"
                         "table hands\nask common table hands\ntable falls\nask falls falls")
        self.assertEqual(page.names, ["hands", "table", "ask", "group", "none"])
        self.assertEqual([name for name, _ in page.tables], ["table", "hands", "falls"])
        self.assertEqual(page.tables[0][1][0b01100], 5)
        self.assertEqual([row for row, _ in page.asks], ["falls table", "common table hands", "falls falls"])

    def test_wrong_rows_of_hands(self):
        for row in (
            "hands", "hands ", "hands a a", "hands a b a", "hands A", "hands aB", "hands a1", "hands abcdefghi",
            "hands a  b",
            " hands a", "hands a ", "hands  a", "hand a", "Hands a", "hands a b c d e f g", "hands \u00e4", "hands a-b",
            "hands a # b", "hands a\tb", "hands a\r", "table t", "ask falls t", "group 5 a", "steps 1", " ", "a", "\t",
            " #",
        ):
            self.assertEqual(bad_row(row), 1, row)
            self.assertEqual(bad_row(f"{row}\n{HANDS}"), 1, row)
            self.assertEqual(bad_row(f"# words\n\n{row}\n{HANDS}"), 3, row)

    def test_a_second_row_of_hands(self):
        for row in (HANDS, "hands a", "hands d"):
            self.assertEqual(bad_row(f"{HANDS}\n{row}"), 2)
            self.assertEqual(bad_row(f"{HANDS}\ntable t\n\n{row}"), 4)

    def test_pages_of_which_no_row_says_anything(self):
        # The empty text is one row, an empty one.
        for text, row in (("", 2), ("\n", 3), ("#", 2), ("# words", 2), ("\n\n\n", 5), ("#\n\n# words", 4), ("#\n", 3)):
            self.assertEqual(bad_row(text), row, repr(text))

    def test_rows_that_say_nothing(self):
        plain = read_page("hands a b\ntable t\neach 5 b\nask falls t")
        for nothing in ("", "#", "#x", "# hands c", "# table t", "##", "#\t", "# \u00e4", "#" * 500):
            page = read_page("\n".join([nothing, "hands a b", nothing, nothing, "table t", nothing, "each 5 b", nothing,
                                        "ask falls t", nothing]))
            self.assertEqual((page.names, page.tables, page.asks), (plain.names, plain.tables, plain.asks))


class TablesTest(unittest.TestCase):
    def test_a_table_costs_nothing_at_first(self):
        for count in range(1, 7):
            names = "a b c d e f".split()[:count]
            page = read_page("hands " + " ".join(names) + "\ntable t")
            self.assertEqual(page.tables, [("t", [0] * 2 ** count)])

    def test_group(self):
        self.assertEqual(only_table(["group 5 a"]), [0, 5, 0, 0, 0, 0, 0, 0])
        self.assertEqual(only_table(["group -5 a c"]), [0, 0, 0, 0, 0, -5, 0, 0])
        self.assertEqual(only_table(["group 5 c a"]), [0, 0, 0, 0, 0, 5, 0, 0])
        self.assertEqual(only_table(["group 7 c a b"]), [0, 0, 0, 0, 0, 0, 0, 7])
        self.assertEqual(only_table([f"group -{LONGEST} b"]), [0, 0, 1 - 10 ** 200, 0, 0, 0, 0, 0])

    def test_each(self):
        self.assertEqual(only_table(["each 5 a"]), [0, 5, 0, 5, 0, 5, 0, 5])
        self.assertEqual(only_table(["each -5 c"]), [0, 0, 0, 0, -5, -5, -5, -5])
        self.assertEqual(only_table(["each 5 a"], "a"), [0, 5])

    def test_cover(self):
        self.assertEqual(only_table(["cover 5 a"]), [0, 5, 0, 5, 0, 5, 0, 5])
        self.assertEqual(only_table(["cover 5 c a"]), [0, 5, 0, 5, 5, 5, 5, 5])
        self.assertEqual(only_table(["cover 5 a b c"]), [0, 5, 5, 5, 5, 5, 5, 5])
        self.assertEqual(only_table(["cover 0 a b c"]), [0] * 8)

    def test_cut(self):
        self.assertEqual(only_table(["cut 5 a b"]), [0, 5, 0, 0, 0, 5, 0, 0])
        self.assertEqual(only_table(["cut 5 b a"]), [0, 0, 5, 0, 0, 0, 5, 0])
        self.assertEqual(only_table(["cut 5 c a"]), [0, 0, 0, 0, 5, 0, 5, 0])
        self.assertEqual(only_table(["cut 0 c a"]), [0] * 8)

    def test_steps(self):
        self.assertEqual(only_table(["steps 5 3 -2"]), as_table(3, lambda hands: [0, 5, 8, 6][len(hands)]))
        self.assertEqual(only_table(["steps 4 4 4"]), as_table(3, lambda hands: 4 * len(hands)))
        self.assertEqual(only_table(["steps -7"], "a"), [0, -7])

    def test_several_rows_add_up(self):
        rows = ["group 5 a b", "group 7 a b", "group -2 b a", "each 3 b", "cover 2 a c", "cut 1 c b", "steps 3 2 2",
                "each 4 b", "group 1 a"]
        tables = [only_table([row]) for row in rows]
        whole = [0] * 8
        for table in tables:
            whole = added(whole, table)
        self.assertEqual(only_table(rows), whole)
        self.assertEqual(only_table(list(reversed(rows))), whole)
        self.assertEqual(only_table(rows + rows), scaled(2, whole))

    def test_two_tables(self):
        page = read_page("hands a b\ntable t\neach 5 a\ntable u\neach 7 b\ngroup 1 a b\ntable v")
        self.assertEqual(page.tables, [("t", [0, 5, 0, 5]), ("u", [0, 0, 7, 8]), ("v", [0, 0, 0, 0])])

    def test_an_ask_does_not_end_a_table(self):
        page = read_page("hands a b\ntable t\neach 5 a\nask falls t\neach 7 b\ntable u\nask falls t\neach 1 a")
        self.assertEqual(page.tables, [("t", [0, 5, 7, 12]), ("u", [0, 1, 0, 1])])

    def test_hands_and_tables_of_one_name(self):
        page = read_page("hands a b\ntable a\neach 5 b\ntable b\neach 3 a\nask common a b")
        self.assertEqual(page.asks, [("common a b", ("common", [0, 0, 5, 5], [0, 3, 0, 3]))])

    def test_table_named(self):
        page = read_page("hands a b\ntable t\neach 5 a\ntable u\neach 7 b")
        self.assertEqual(table_named(page, "t"), [0, 5, 0, 5])
        self.assertEqual(table_named(page, "u"), [0, 0, 7, 7])
        for name in ("a", "v", "", "T", "t "):
            self.assertIsNone(table_named(page, name))

    def test_table_named_tells_a_copy(self):
        page = read_page("hands a b\ntable t\neach 5 a\nask falls t\nask common t t")
        table_named(page, "t").append(99)
        self.assertEqual(page.tables, [("t", [0, 5, 0, 5])])
        page.asks[1][1][1].append(99)
        self.assertEqual(page.asks[1][1][2], [0, 5, 0, 5])
        self.assertEqual(page.asks[0][1][1], [0, 5, 0, 5])
        self.assertEqual(page.tables, [("t", [0, 5, 0, 5])])


class AsksTest(unittest.TestCase):
    def test_each_ask(self):
        head = "hands a b\ntable t\nsteps 5 3\ntable u\neach 1 a\n"
        one, other = [0, 5, 5, 8], [0, 1, 0, 1]
        asks = [
            ("falls t", ("falls", one)), ("falls u", ("falls", other)),
            ("cheapest t 4 -9", ("cheapest", one, [4, -9])), ("best u 0 2", ("best", other, [0, 2])),
            ("base t -1 0", ("base", one, [-1, 0])), ("common t u", ("common", one, other)),
            ("common u u", ("common", other, other)), ("between u t", ("between", other, one)),
            ("fairest t 1 7", ("fairest", one, [1, 7])), ("falls t", ("falls", one)),
        ]
        page = read_page(head + "\n".join([f"ask {row}" for row, _ in asks]))
        self.assertEqual(page.asks, asks)
        for row, ask in asks:
            self.assertEqual(ask_of(page, row), ask)

    def test_an_ask_means_what_its_table_costs_in_the_whole_page(self):
        page = read_page("hands a b\ntable t\nask falls t\nask base t 1 2\ncover 5 a b\nask falls t\neach -1 b")
        table = [0, 5, 4, 4]
        self.assertEqual(page.asks, [
            ("falls t", ("falls", table)), ("base t 1 2", ("base", table, [1, 2])), ("falls t", ("falls", table)),
        ])

    def test_an_ask_names_tables_begun_ahead_of_it(self):
        self.assertEqual(bad_row("hands a\nask falls t\ntable t"), 2)
        self.assertEqual(bad_row("hands a\ntable t\nask falls u\ntable u"), 3)
        self.assertEqual(bad_row("hands a\ntable t\nask common t u\ntable u"), 3)
        self.assertEqual(bad_row("hands a\ntable t\nask common u t\ntable u"), 3)
        self.assertIsNone(bad_row("hands a\ntable t\ntable u\nask common u t"))

    def test_ask_of_any_table_of_the_page(self):
        page = read_page("hands a b\ntable t\nask falls t\ntable u\neach 2 a")
        self.assertEqual(ask_of(page, "common u t"), ("common", [0, 2, 0, 2], [0, 0, 0, 0]))
        self.assertEqual(ask_of(page, f"base u -{LONGEST} 0"), ("base", [0, 2, 0, 2], [1 - 10 ** 200, 0]))

    def test_ask_of_refuses_other_rows(self):
        page = read_page(f"{HANDS}\ntable t")
        for row in BAD_ROWS:
            if row.startswith("ask"):
                with self.assertRaises(BadAsk):
                    ask_of(page, row[4:])
        for row in ("", " ", "ask falls t", "falls t\n", "\nfalls t", "# falls t", "falls t > yes", "table t"):
            with self.assertRaises(BadAsk):
                ask_of(page, row)

    def test_ask_of_a_page_without_tables(self):
        with self.assertRaises(BadAsk):
            ask_of(read_page(HANDS), "falls t")


class BadRowsTest(unittest.TestCase):
    def test_good_rows(self):
        self.assertIsNone(bad_row("\n".join([HANDS, "table t"] + GOOD_ROWS)))
        for row in GOOD_ROWS:
            self.assertIsNone(bad_row(f"{HANDS}\ntable t\n{row}"), row)
            self.assertIsNone(bad_row(f"#\n{HANDS}\ntable t\neach 1 a\n{row}\neach 1 b\n"), row)

    def test_each_wrong_row_ahead_in_the_middle_and_at_the_end(self):
        for row in BAD_ROWS:
            self.assertEqual(bad_row(f"{HANDS}\ntable t\n{row}"), 3, row)
            self.assertEqual(bad_row(f"{HANDS}\ntable t\neach 1 a\n\n{row}\neach 1 b\nask falls t"), 5, row)
            self.assertEqual(bad_row(f"# words\n{HANDS}\ntable t\neach 1 a\nask falls t\n{row}\n"), 6, row)
            # A right row of hands at the first place makes that of the second place wrong.
            first = 2 if row in (HANDS, "hands d") else 1
            self.assertEqual(bad_row(f"{row}\n{HANDS}\ntable t"), first, row)

    def test_two_wrong_rows(self):
        for row in BAD_ROWS[::3]:
            self.assertEqual(bad_row(f"{HANDS}\ntable t\n{row}\neach 1 a\n{row}"), 3, row)
            self.assertEqual(bad_row(f"{HANDS}\ntable t\nask falls u\n{row}"), 3, row)
            self.assertEqual(bad_row(f"{HANDS}\ntable t\n{row}\nask falls u"), 3, row)

    def test_rows_that_add_ahead_of_any_table(self):
        for row in ("group 5 a", "each 5 a", "cover 5 a", "cut 5 a b", "steps 3 2 1"):
            self.assertEqual(bad_row(f"{HANDS}\n{row}\ntable t"), 2, row)
            self.assertEqual(bad_row(f"{HANDS}\n\n#\n{row}"), 4, row)

    def test_rows_ahead_of_the_hands(self):
        for row in ("table t", "ask falls t", "group 5 a", "steps 3 2 1", "ask"):
            self.assertEqual(bad_row(f"{row}\n{HANDS}"), 1)
            self.assertEqual(bad_row(f"\n{row}\n{HANDS}\ntable t"), 2)

    def test_a_table_begun_twice(self):
        self.assertEqual(bad_row("hands a\ntable t\ntable u\ntable t"), 4)
        self.assertEqual(bad_row("hands a\ntable t\neach 1 a\ntable t\neach 1 a"), 4)

    def test_only_line_feeds_part_rows(self):
        for sign in ("\r", "\x0b", "\x0c", "\x1c", "\x85", "\u2028", "\t", " ", "\u00a0"):
            self.assertEqual(bad_row(f"hands a{sign}\ntable t"), 1, repr(sign))
            self.assertEqual(bad_row(f"hands a{sign}table{sign}"), 1, repr(sign))
        self.assertIsNone(bad_row("# a\rb\x0bc\u2028hands\nhands a"))

    def test_a_refusal_tells_its_row_as_a_number(self):
        with self.assertRaises(BadText) as caught:
            read_page("hands a\ntable t\nwrong")
        self.assertIs(type(caught.exception.row), int)
        self.assertEqual(caught.exception.row, 3)

    def test_long_pages(self):
        rows = [f"group {number} a b" for number in range(-500, 501)] + [f"each {HUGE} c"] * 200
        self.assertEqual(only_table(rows)[0b100], 200 * HUGE)
        self.assertEqual(only_table(rows)[0b011], 0)
        self.assertEqual(bad_row("\n".join([HANDS, "table t"] + rows + ["each 1 d"])), len(rows) + 3)


if __name__ == "__main__":
    unittest.main()
