"""The words of the parts of answers and papers, written and read."""

from groupcost.errors import BadPaper
from groupcost.fractions import is_fraction
from groupcost.kinds import is_order
from groupcost.masks import group_of, hands_in
from groupcost.reading import hands_named, number_in

PAPER_FIGURES = 2000


def named_words(names, begin, hands, end):
    """The words of some hands between two signs."""
    return [begin] + [names[hand] for hand in hands] + [end]


def group_words(names, group):
    """The words of a group."""
    return named_words(names, "{", hands_in(group), "}")


def fraction_word(found):
    """The word of a fraction."""
    top = found[0]
    bottom = found[1]
    return f"{top}/{bottom}"


def pair_words(names, form, pair):
    """The words of a pair of a mix or of steps."""
    if form == "mix":
        return named_words(names, "(", pair[0], ")") + [str(pair[1])]
    return group_words(names, pair[0]) + [fraction_word(pair[1])]


def part_words(names, form, part):
    """The words of a part of a form."""
    if form == "word":
        return [part]
    if form == "number":
        return [str(part)]
    if form == "row":
        return [str(number) for number in part]
    if form == "group":
        return group_words(names, part)
    if form == "fractions":
        return [fraction_word(found) for found in part]
    words = []
    for pair in part:
        words.extend(pair_words(names, form, pair))
    return words


def parts_words(names, forms, parts):
    """The words of parts of some forms."""
    words = []
    for form, part in zip(forms, parts):
        words.extend(part_words(names, form, part))
    return words


def take_word(words):
    """The first of the words, which is taken away."""
    if len(words) == 0:
        raise BadPaper("the row ends too early")
    return words.pop(0)


def take_answer_word(words):
    """The word yes or no."""
    word = take_word(words)
    if word != "yes" and word != "no":
        raise BadPaper("neither yes nor no")
    return word


def take_number(words):
    """A number."""
    number = number_in(take_word(words), PAPER_FIGURES)
    if number is None:
        raise BadPaper("no number")
    return number


def take_many(words):
    """The many of a pair of a mix."""
    many = take_number(words)
    if many < 1:
        raise BadPaper("a many is from 1 on")
    return many


def take_fraction(words):
    """A fraction, in one word."""
    halves = take_word(words).partition("/")
    found = (number_in(halves[0], PAPER_FIGURES), number_in(halves[2], PAPER_FIGURES))
    if not is_fraction(found):
        raise BadPaper("no fraction without a common divisor")
    return found


def take_hands(names, words, begin, end):
    """The hands named between two signs, none twice."""
    if take_word(words) != begin:
        raise BadPaper("the sign ahead of names is lacking")
    named = []
    word = take_word(words)
    while word != end:
        named.append(word)
        word = take_word(words)
    hands = hands_named(names, named)
    if hands is None:
        raise BadPaper("a name of no hand, or one told twice")
    return hands


def take_group(names, words):
    """A group, its hands in growing order."""
    hands = take_hands(names, words, "{", "}")
    if hands != sorted(hands):
        raise BadPaper("the hands of a group are not in growing order")
    return group_of(hands)


def take_order(names, words):
    """An order of all hands."""
    hands = take_hands(names, words, "(", ")")
    if not is_order(len(names), hands):
        raise BadPaper("an order lacks a hand")
    return hands


def take_pairs(names, form, words):
    """The pairs of a mix or of steps, all that are left."""
    pairs = []
    while len(words) > 0:
        if form == "mix":
            order = take_order(names, words)
            pairs.append((order, take_many(words)))
        else:
            group = take_group(names, words)
            pairs.append((group, take_fraction(words)))
    return pairs


def take_part(names, form, words):
    """A part of a form, whose words are taken away."""
    if form == "word":
        return take_answer_word(words)
    if form == "number":
        return take_number(words)
    if form == "row":
        return [take_number(words) for name in names]
    if form == "group":
        return take_group(names, words)
    if form == "fractions":
        return [take_fraction(words) for name in names]
    return take_pairs(names, form, words)


def take_parts(names, forms, words):
    """The parts of some forms, for which all words have to be there."""
    parts = [take_part(names, form, words) for form in forms]
    if len(words) > 0:
        raise BadPaper("the row goes on too long")
    return parts
