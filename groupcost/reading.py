"""Pages: texts of rows that name hands, tell tables and ask."""

from groupcost.errors import BadAsk, BadMaker, BadText
from groupcost.forms import ask_forms
from groupcost.makers import MOST_HANDS, from_covers, from_cuts, from_steps
from groupcost.masks import group_of
from groupcost.tables import added, row_table

LETTERS = "abcdefghijklmnopqrstuvwxyz"
FIGURES = "0123456789"
MOST_LETTERS = 8
PAGE_FIGURES = 200


class Page:
    """What a page says: the hands' names, pairs (name, table), and pairs (the ask's words, the ask)."""

    def __init__(self, names, tables, asks):
        self.names = names
        self.tables = tables
        self.asks = asks


def is_name(word):
    """Whether a word is a name: 1 to 8 small letters."""
    return len(word) >= 1 and len(word) <= MOST_LETTERS and all([sign in LETTERS for sign in word])


def number_in(word, figures):
    """The number that a word of at most so many figures writes, or None."""
    written = word[1:] if word.startswith("-") else word
    if len(written) == 0 or len(written) > figures or not all([sign in FIGURES for sign in written]):
        return None
    # A nought stands ahead of other figures, or behind a sign.
    if written[0] == "0" and word != "0":
        return None
    return int(word)


def numbers_in(words):
    """The numbers that words of a page write, or None where one of them writes none."""
    numbers = [number_in(word, PAGE_FIGURES) for word in words]
    return None if None in numbers else numbers


def hands_named(names, words):
    """The hands that words name, or None where a word names none, or one is named twice."""
    if not all([word in names for word in words]) or len(set(words)) < len(words):
        return None
    return [names.index(word) for word in words]


def table_named(page, name):
    """The table of a name in a page, or None."""
    for known, table in page.tables:
        if known == name:
            return list(table)
    return None


def ask_part(page, form, words):
    """The part of an ask that words write, or None where they write none of its form."""
    if form == "table":
        return table_named(page, words[0]) if len(words) == 1 else None
    numbers = numbers_in(words)
    if numbers is None or len(numbers) != len(page.names):
        return None
    if form == "weights" and min(numbers) < 1:
        return None
    return numbers


def ask_of(page, row):
    """The ask that a row of an ask's words writes, of any table of the page."""
    words = row.split(" ")
    forms = ask_forms(words[0])
    if forms is None:
        raise BadAsk("there is no such ask")
    parts = []
    rest = words[1:]
    for form in forms:
        many = 1 if form == "table" else len(page.names)
        parts.append(ask_part(page, form, rest[:many]))
        rest = rest[many:]
    if None in parts or len(rest) > 0:
        raise BadAsk("these are not the words of such an ask")
    return tuple([words[0]] + parts)


def steps_more(hands, words):
    """The table that a row of steps adds, or None where its words are not such steps."""
    steps = numbers_in(words)
    if steps is None or len(steps) != hands:
        return None
    try:
        return from_steps(steps)
    except BadMaker:
        return None


def named_more(hands, kind, number, named):
    """The table that a row of a number and named hands adds, or None where it adds none."""
    if kind == "group":
        return [number if group == group_of(named) else 0 for group in range(1 << hands)]
    if kind == "each" and len(named) == 1:
        return row_table([number if hand == named[0] else 0 for hand in range(hands)])
    if kind == "cover" and number >= 0:
        return from_covers(hands, [(number, group_of(named))])
    if kind == "cut" and number >= 0 and len(named) == 2:
        return from_cuts(hands, [(named[0], named[1], number)])
    return None


def more_of(names, words):
    """The table that the words of a row add, or None where they add none."""
    if words[0] == "steps":
        return steps_more(len(names), words[1:])
    if len(words) < 3:
        return None
    number = number_in(words[1], PAGE_FIGURES)
    named = hands_named(names, words[2:])
    if number is None or named is None:
        return None
    return named_more(len(names), words[0], number, named)


def takes_table(page, words):
    """Begins a table of a name in a page, where the words behind `table` are such."""
    if len(words) != 1 or not is_name(words[0]) or table_named(page, words[0]) is not None:
        return False
    page.tables.append((words[0], [0] * (1 << len(page.names))))
    return True


def takes_more(page, words):
    """Adds to the table that a page began last, where the words of a row add."""
    more = more_of(page.names, words)
    if more is None or len(page.tables) == 0:
        return False
    last = page.tables[-1]
    page.tables[-1] = (last[0], added(last[1], more))
    return True


def takes_ask(page, row):
    """Takes an ask's words into a page, where they are such and name tables that are begun."""
    try:
        ask = ask_of(page, row)
    except BadAsk:
        return False
    page.asks.append((row, ask))
    return True


def takes_row(page, row):
    """Takes a row behind that of the hands into a page; tells whether it is one that may stand there."""
    words = row.split(" ")
    if words[0] == "table":
        return takes_table(page, words[1:])
    if words[0] == "ask":
        return takes_ask(page, " ".join(words[1:]))
    return takes_more(page, words)


def begun_page(row):
    """The page that a row of the hands begins, or None where it is no such row."""
    words = row.split(" ")
    names = words[1:]
    if words[0] != "hands" or len(names) < 1 or len(names) > MOST_HANDS:
        return None
    if not all([is_name(name) for name in names]) or len(set(names)) < len(names):
        return None
    return Page(names, [], [])


def read_page(text):
    """The page that a text writes."""
    rows = text.split("\n")
    page = None
    for number, row in enumerate(rows, start=1):
        if row == "" or row.startswith("#"):
            continue
        if page is None:
            page = begun_page(row)
            taken = page is not None
        else:
            taken = takes_row(page, row)
        if not taken:
            raise BadText("the row is none that may stand there", number)
    if page is None:
        raise BadText("the row of the hands is lacking", len(rows) + 1)
    # Only now is it known what the tables cost in the whole page.
    return Page(page.names, page.tables, [(row, ask_of(page, row)) for row, ask in page.asks])
