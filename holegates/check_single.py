"""Checks of the papers about tasks with one hole."""

from holegates.checks import is_within
from holegates.single import Between, Clash, between, need_one_hole, wants
from holegates.tables import is_table


def shows_between(task, value):
    """Whether it is a Between of the least and the greatest table, or a Clash of two such rows."""
    need_one_hole(task)
    # A class below one of these is another one, so isinstance would not do.
    if type(value) is Between:
        return is_table(value.least) and is_table(value.greatest) and value == between(task)
    return type(value) is Clash and _is_clash(task, value.one, value.other)


def _is_clash(task, one, other):
    if not is_within(one, 0, task.many - 1) or not is_within(other, 0, task.many - 1):
        return False
    return task.views_at[one] == task.views_at[other] and wants(task, one, 1) and wants(task, other, 0)
