"""Checks of the papers about the wires that a hole must see."""

from holegates.checks import is_within
from holegates.sights import Enough, Short, need_sure_wires, numbers_told
from holegates.single import wants
from holegates.tables import is_table


def shows_enough(task, wires, value):
    """Whether it is an Enough of any table of these wires that will do, or a Short of any two such rows."""
    need_sure_wires(task, wires)
    # A class below one of these is another one, so isinstance would not do.
    if type(value) is Enough:
        return is_table(value.table) and len(value.table) == 1 << len(wires) and _will_do(task, wires, value.table)
    return type(value) is Short and _is_short(task, wires, value.one, value.other)


def _will_do(task, wires, table):
    told = numbers_told(task, wires)
    return not any([wants(task, row, 1 - table[number]) for row, number in enumerate(told)])


def _is_short(task, wires, one, other):
    if not is_within(one, 0, task.many - 1) or not is_within(other, 0, task.many - 1):
        return False
    told = numbers_told(task, wires)
    return told[one] == told[other] and wants(task, one, 1) and wants(task, other, 0)
