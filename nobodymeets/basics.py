"""What all modules ask of any value: whether it is an integer, a number, a sequence, a lot."""


def is_integer(value):
    """Whether a value is an integer; a bool is none."""
    return isinstance(value, int) and not isinstance(value, bool)


def is_number(value):
    """Whether a value is an integer from 0 on."""
    return is_integer(value) and value >= 0


def is_index(value, many):
    """Whether a value is the number of one of so many things."""
    return is_integer(value) and 0 <= value < many


def is_sequence(value):
    """Whether a value is a list or a tuple."""
    return isinstance(value, (list, tuple))


def is_lot(value, many):
    """Whether a value is a tuple of unlike, ascending numbers of so many things."""
    if not isinstance(value, tuple):
        return False
    if not all([is_index(number, many) for number in value]):
        return False
    return all([one < other for one, other in zip(value, value[1:])])
