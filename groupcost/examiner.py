"""Asks answered with a paper beside each answer, and the examiner, who tells whether a paper shows an answer."""

from groupcost.between import between
from groupcost.cheapest import cheapest
from groupcost.fairest import fair_steps, fairest, shows_fairest
from groupcost.falling import break_of, falls, must_fall, two_break
from groupcost.forms import answer_forms, ask_forms, parts_fit
from groupcost.kinds import is_pair, is_row
from groupcost.mixes import is_mix, mixed
from groupcost.papers import made_for, shows_bar, shows_best, shows_between, shows_cheapest, shows_common
from groupcost.parting import common
from groupcost.prices import best_base, weight_of
from groupcost.shares import is_base, over
from groupcost.tables import everybody, hand_count, row_gives


def answered_falls(table):
    """Whether a table falls, with two groups that break it where it doesn't."""
    found = break_of(table)
    if found is None:
        return ("yes", None)
    return ("no", ("break", found[0] | (1 << found[1]), found[0] | (1 << found[2])))


def answered_cheapest(table, prices):
    """A cheapest group and the least cost, with dues."""
    found = cheapest(table, prices)
    return ((found[0], found[1]), ("dues", found[2]))


def answered_best(table, prices):
    """The most that a base weighs at prices, with a base that does."""
    shares = best_base(table, prices)
    return (weight_of(shares, prices), ("base", shares))


def answered_base(table, shares):
    """Whether shares are a base, with a mix of them, or with what is wrong with them."""
    must_fall(table)
    if is_base(table, shares):
        return ("yes", ("mix", mixed(table, shares)))
    found = over(table, shares)
    if found[1] > 0:
        return ("no", ("group", found[0]))
    return ("no", ("sum",))


def answered_common(one, other):
    """What common shares of two tables come to, with such shares and the parting's group."""
    found = common(one, other)
    return (sum(found[0]), ("both", found[0], found[1]))


def answered_between(low, high):
    """Whether a row lies between two tables, with the row or the group that bars it."""
    paper = between(low, high)
    return ("yes" if paper[0] == "row" else "no", paper)


def answered(ask):
    """The answer to an ask, and a paper that shows it."""
    kind = ask[0]
    if kind == "falls":
        return answered_falls(ask[1])
    if kind == "cheapest":
        return answered_cheapest(ask[1], ask[2])
    if kind == "best":
        return answered_best(ask[1], ask[2])
    if kind == "base":
        return answered_base(ask[1], ask[2])
    if kind == "common":
        return answered_common(ask[1], ask[2])
    if kind == "between":
        return answered_between(ask[1], ask[2])
    return (fairest(ask[1], ask[2]), ("steps", fair_steps(ask[1], ask[2])))


def ask_part_fits(table, form, part):
    """Whether a part of an ask is one for the hands of the ask's first table."""
    if form == "table":
        return len(part) == len(table)
    # Weights need not be told.
    if form == "weights" and part is None:
        return True
    return is_row(hand_count(table), part)


def ask_fits(ask):
    """Whether the rows and tables of an ask are of as many hands."""
    return all([ask_part_fits(ask[1], form, part) for form, part in zip(ask_forms(ask[0]), ask[1:])])


def answer_fits(ask, answer):
    """Whether an answer is of the kind that is told for the ask, made for its hands."""
    forms = answer_forms(ask[0])
    hands = hand_count(ask[1])
    if len(forms) == 1:
        return parts_fit(hands, forms, [answer])
    return is_pair(answer) and parts_fit(hands, forms, answer)


def shown_falls(table, answer, paper):
    """Whether a paper shows that a table falls, or that it doesn't."""
    if answer == "yes":
        return paper is None and falls(table)
    return paper is not None and paper[0] == "break" and two_break(table, paper[1], paper[2])


def shown_base(table, shares, answer, paper):
    """Whether a paper shows that shares are a base, or that they are none."""
    if answer == "yes":
        # Only a table that falls has nothing but bases by its orders.
        return paper[0] == "mix" and falls(table) and is_mix(table, shares, paper[1])
    if paper[0] == "group":
        return row_gives(shares, paper[1]) > table[paper[1]]
    return paper[0] == "sum" and sum(shares) != table[everybody(table)]


def shown_between(low, high, answer, paper):
    """Whether a paper shows that a row lies between two tables, or that none does."""
    if answer == "yes":
        return paper[0] == "row" and shows_between(low, high, paper[1])
    return paper[0] == "bar" and shows_bar(low, high, paper[1])


def shown_by(ask, answer, paper):
    """Whether a paper, which is there, shows an answer to an ask; all are made for the same hands."""
    kind = ask[0]
    if kind == "cheapest":
        return paper[0] == "dues" and shows_cheapest(ask[1], ask[2], answer[0], answer[1], paper[1])
    if kind == "best":
        return paper[0] == "base" and shows_best(ask[1], ask[2], answer, paper[1])
    if kind == "base":
        return shown_base(ask[1], ask[2], answer, paper)
    if kind == "common":
        return paper[0] == "both" and shows_common(ask[1], ask[2], answer, paper[1], paper[2])
    if kind == "between":
        return shown_between(ask[1], ask[2], answer, paper)
    return paper[0] == "steps" and shows_fairest(ask[1], ask[2], answer, paper[1])


def shown(ask, answer, paper):
    """Whether a paper shows an answer to an ask, whoever made it."""
    if not ask_fits(ask) or not answer_fits(ask, answer) or not made_for(hand_count(ask[1]), paper):
        return False
    if ask[0] == "falls":
        return shown_falls(ask[1], answer, paper)
    return paper is not None and shown_by(ask, answer, paper)
