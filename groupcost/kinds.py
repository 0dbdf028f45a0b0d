"""What is a number, a row, a group, an order and a pair, of whatever may be handed in."""


def is_number(value):
    """Whether a value is a whole number; True and False are none."""
    return isinstance(value, int) and not isinstance(value, bool)


def is_row(hands, value):
    """Whether a value is a list with a number for each of so many hands."""
    return isinstance(value, list) and len(value) == hands and all([is_number(number) for number in value])


def is_group(hands, value):
    """Whether a value is a group of so many hands."""
    return is_number(value) and value >= 0 and value < (1 << hands)


def is_order(hands, value):
    """Whether a value is a list in which each of so many hands stands once."""
    return is_row(hands, value) and sorted(value) == list(range(hands))


def is_pair(value):
    """Whether a value is a pair, of whatever."""
    return isinstance(value, tuple) and len(value) == 2
