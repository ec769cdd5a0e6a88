"""Checks of single values, for values of any kind."""

from holegates.papers import fixed

LETTERS = "abcdefghijklmnopqrstuvwxyz"
LETTERS_AND_DIGITS = "abcdefghijklmnopqrstuvwxyz0123456789"
LONGEST_NAME = 12


def is_integer(value):
    """Whether it is an integer; True and False are none."""
    return isinstance(value, int) and not isinstance(value, bool)


def is_within(value, least, most):
    """Whether it is an integer from least to most; None stands for no bound."""
    if not is_integer(value):
        return False
    return (least is None or least <= value) and (most is None or value <= most)


def is_sign(value):
    """Whether it is the integer 0 or 1."""
    return is_within(value, 0, 1)


def are_signs(value):
    """Whether it is a list or tuple of signs."""
    return isinstance(value, (list, tuple)) and all([is_sign(item) for item in value])


def is_name(value):
    """Whether it is a small letter with small letters and digits behind it, twelve at most."""
    if not isinstance(value, str) or not 1 <= len(value) <= LONGEST_NAME:
        return False
    return value[0] in LETTERS and all([sign in LETTERS_AND_DIGITS for sign in value])


def first_twice(values):
    """The first of the values that equals one ahead of it, None if there is none."""
    seen = set()
    for value in values:
        key = _flat_key(value)
        if key in seen:
            return fixed(value)
        seen.add(key)
    return None


def _flat_key(value):
    # A member of a set may be nested eight deep at most, a value thirty deep. So what
    # is nested is spread out: None opens it and () closes it, neither being an item.
    if not isinstance(value, (list, tuple)):
        return (value,)
    spread = [None]
    for item in value:
        spread.extend(_flat_key(item))
    spread.append(())
    return tuple(spread)
