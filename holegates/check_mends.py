"""Checks of the papers about rows of gates that do not matter."""

from holegates.checks import are_signs, is_within
from holegates.freerows import Idle, Matters, bits_of_wish, idle, need_pairs
from holegates.tables import told_in_twos
from holegates.wires import count_rows


def shows_idle(net, wish, rows, value):
    """Whether it is an Idle where it is so, or a Matters of any such row and signs."""
    need_pairs(net, wish, rows)
    # A class below one of these is another one, so isinstance would not do.
    if type(value) is Idle:
        return bool(idle(net, wish, rows))
    return type(value) is Matters and _matters(net, wish, rows, value.row, value.signs)


def _matters(net, wish, rows, row, signs):
    if not is_within(row, 0, count_rows(net) - 1) or not are_signs(signs) or len(signs) != len(rows):
        return False
    case = (row << len(rows)) + told_in_twos(signs)
    return (bits_of_wish(net, wish, rows) >> case) & 1 == 0
