"""What asks, answers and papers are made of, part by part."""

from groupcost.fractions import is_fraction
from groupcost.kinds import is_group, is_number, is_order, is_pair, is_row

ASKS = {
    "falls": ("table",),
    "cheapest": ("table", "row"),
    "best": ("table", "row"),
    "base": ("table", "row"),
    "common": ("table", "table"),
    "between": ("table", "table"),
    "fairest": ("table", "weights"),
}

ANSWERS = {
    "falls": ("word",),
    "cheapest": ("group", "number"),
    "best": ("number",),
    "base": ("word",),
    "common": ("number",),
    "between": ("word",),
    "fairest": ("fractions",),
}

PAPERS = {
    "break": ("group", "group"),
    "dues": ("row",),
    "base": ("row",),
    "group": ("group",),
    "sum": (),
    "mix": ("mix",),
    "both": ("row", "group"),
    "row": ("row",),
    "bar": ("group",),
    "steps": ("steps",),
}


def ask_forms(kind):
    """The forms of the parts of an ask behind its kind, or None where there is no such kind."""
    return ASKS.get(kind)


def answer_forms(kind):
    """The forms of the parts of an answer to an ask of a kind."""
    return ANSWERS[kind]


def paper_forms(kind):
    """The forms of the parts of a paper behind its kind, or None where there is no such kind."""
    return PAPERS.get(kind)


def pairs_fit(hands, form, pairs):
    """Whether the pairs of a mix or of steps are such of so many hands."""
    if form == "mix":
        return all([is_order(hands, order) and is_number(many) for order, many in pairs])
    return all([is_group(hands, group) and is_fraction(found) for group, found in pairs])


def part_fits(hands, form, part):
    """Whether a part of an answer or of a paper has a form, of so many hands."""
    if form == "word":
        return part == "yes" or part == "no"
    if form == "number":
        return is_number(part)
    if form == "row":
        return is_row(hands, part)
    if form == "group":
        return is_group(hands, part)
    if not isinstance(part, list):
        return False
    if form == "fractions":
        return len(part) == hands and all([is_fraction(found) for found in part])
    return all([is_pair(pair) for pair in part]) and pairs_fit(hands, form, part)


def parts_fit(hands, forms, parts):
    """Whether parts have just these forms, of so many hands."""
    return len(parts) == len(forms) and all([part_fits(hands, form, part) for form, part in zip(forms, parts)])
