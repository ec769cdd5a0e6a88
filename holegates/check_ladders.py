"""Checks of the papers about tasks with nested sights."""

from holegates.checks import is_integer
from holegates.ladders import Plan, Trap, climb_of, ladder
from holegates.tasks import is_filling


def shows_plan(task, value):
    """Whether it is a Plan of any right filling, or a Trap of any tree that is one."""
    ladder(task)
    # A class below one of these is another one, so isinstance would not do.
    if type(value) is Plan:
        return is_filling(task, value.filling) and task.is_right(value.filling)
    if type(value) is not Trap:
        return False
    climb = climb_of(task)
    return _is_trap(climb, value.tree, climb.top, 0)


def _is_trap(climb, tree, spot, number):
    # The rows of the spot are those that have all views named ahead, the number tells the signs that lead here.
    if not spot.further:
        return is_integer(tree) and tree in spot.rows and climb.is_wrong_at(tree, number)
    if not isinstance(tree, tuple) or len(tree) != 3 or not is_integer(tree[0]):
        return False
    for later in spot.further:
        if later.seen == tree[0]:
            one = number + (1 << spot.many)
            return _is_trap(climb, tree[1], later, number) and _is_trap(climb, tree[2], later, one)
    return False
