"""Questions about values of any kind."""


def is_integer(value):
    """True for an integer; True and False are none ([0.4])."""
    return isinstance(value, int) and not isinstance(value, bool)


def is_index(value, size):
    """True for an integer from 0 to size - 1."""
    return is_integer(value) and 0 <= value < size


def has_repeat(values):
    """True if a value stands twice in a list or tuple."""
    return any([value in values[:at] for at, value in enumerate(values)])


def in_order(values, chosen):
    """Those of the values that are chosen, in their order."""
    return tuple([value for value in values if value in chosen])
