"""Checks of the papers about tasks with nested sights."""

from holegates.checks import is_integer
from holegates.climbs import Climb
from holegates.ladders import Plan, Trap, ladder
from holegates.tasks import is_filling


def shows_plan(task, value):
    """Whether it is a Plan of any right filling, or a Trap of any tree that is one."""
    climb = Climb(task, ladder(task))
    # A class below one of these is another one, so isinstance would not do.
    if type(value) is Plan:
        return is_filling(task, value.filling) and task.is_right(value.filling)
    return type(value) is Trap and _is_trap(climb, value.tree, climb.rows, ())


def _is_trap(climb, tree, rows, signs):
    # The rows are those that have all views named ahead, the signs those that lead here.
    if len(signs) == len(climb.order):
        return is_integer(tree) and tree in rows and climb.is_wrong_at(tree, signs)
    if not isinstance(tree, tuple) or len(tree) != 3 or not is_integer(tree[0]):
        return False
    for view, seen in climb.parted(rows, len(signs)):
        if view == tree[0]:
            return _is_trap(climb, tree[1], seen, signs + (0,)) and _is_trap(climb, tree[2], seen, signs + (1,))
    return False
