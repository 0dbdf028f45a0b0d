"""What a paper shows, of tables that fall or don't, and whether it is made for so many hands."""

from groupcost.cheapest import cost_with
from groupcost.forms import paper_forms, parts_fit
from groupcost.parting import parting_cost
from groupcost.prices import weight_of, worth_at
from groupcost.shares import is_base, is_under, keeps_to
from groupcost.tables import row_table


def shows_cheapest(table, prices, group, cost, shares):
    """Whether shares are dues that come to a cost, which is what it costs in all where the group works together."""
    if not is_under(table, shares) or not keeps_to(shares, prices):
        return False
    return sum(shares) == cost and cost_with(table, prices, group) == cost


def shows_best(table, prices, number, shares):
    """Whether shares are a base that weighs a number, which is what the table is worth at the prices."""
    return is_base(table, shares) and weight_of(shares, prices) == number and worth_at(table, prices) == number


def shows_common(one, other, number, shares, group):
    """Whether shares under both tables come to a number, which is what the parting by the group costs."""
    if not is_under(one, shares) or not is_under(other, shares):
        return False
    return sum(shares) == number and parting_cost(one, other, group) == number


def shows_between(low, high, shares):
    """Whether shares give each group no less than it costs by the low table and no more than by the high one."""
    given = row_table(shares)
    return all([least <= gift and gift <= most for least, gift, most in zip(low, given, high)])


def shows_bar(low, high, group):
    """Whether a group costs more by the low table than by the high one."""
    return low[group] > high[group]


def made_for(hands, paper):
    """Whether the rows, groups and orders of a paper are such of so many hands."""
    if paper is None:
        return True
    if not isinstance(paper, tuple) or len(paper) == 0 or not isinstance(paper[0], str):
        return False
    forms = paper_forms(paper[0])
    return forms is not None and parts_fit(hands, forms, paper[1:])
