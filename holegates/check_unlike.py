"""Checks of the papers about tasks whose holes see any wires."""

from holegates.checks import is_integer, is_within
from holegates.tables import bits_of_place
from holegates.tasks import is_filling
from holegates.unlike import Refused, Settled, parts_to_settle


def shows_settled(task, value):
    """Whether it is a Settled of any right filling, or a Refused of any tree that refuses the task."""
    parts_to_settle(task)
    # A class below one of these is another one, so isinstance would not do.
    if type(value) is Settled:
        return is_filling(task, value.filling) and task.is_right(value.filling)
    if type(value) is not Refused:
        return False
    return _refuses(task, {unknown: True for unknown in task.unknowns()}, value.tree, {})


def _refuses(task, unknowns, tree, way):
    # The way has the signs, by the unknowns, that lead here from the top.
    if is_within(tree, 0, task.many - 1):
        return _bars(task, tree, way)
    if not _names_one(tree) or tree[:2] not in unknowns or tree[:2] in way:
        return False
    return all([_refuses(task, unknowns, tree[2 + sign], {**way, tree[:2]: sign}) for sign in (0, 1)])


def _names_one(tree):
    return isinstance(tree, tuple) and len(tree) == 4 and is_integer(tree[0]) and is_integer(tree[1])


def _bars(task, row, way):
    left = task.right_at[row]
    for hole, view in enumerate(task.views_at[row]):
        if (hole, view) in way:
            ones = bits_of_place(len(task.holes), hole)
            left = left & (ones if way[(hole, view)] else ~ones)
    return not left
