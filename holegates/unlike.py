"""Tasks whose holes see any wires: a right filling, or a tree of questions that refuses the task."""

from holegates.errors import Misfit, TooMany
from holegates.papers import Denial, Paper
from holegates.parting import asks, parts_of
from holegates.tables import all_bits, bits_of_place, bits_picked, count_bits, least_bit, setting_told
from holegates.tasks import need_task

MOST_UNKNOWNS = 12


class Settled(Paper):
    """A right filling."""

    def __init__(self, filling):
        Paper.__init__(self, "settled", filling)
        self.filling = self.parts[0]


class Refused(Denial):
    """A tree that asks for signs of unknowns, and ends at rows that bar the ways to them."""

    def __init__(self, tree):
        Denial.__init__(self, "refused", tree)
        self.tree = self.parts[0]


def settle(task):
    """A Settled with a plain filling, or a Refused."""
    told = {}
    for rows, _ in parts_to_settle(task):
        unknowns = _as_asked(task, rows)
        right = right_at(task, rows, unknowns)
        settled = right_at_all(right, unknowns)
        if not settled:
            return Refused(_refusing(list(zip(rows, right)), _with_bits(unknowns), all_bits(len(unknowns))))
        told.update(list(zip(unknowns, setting_told(len(unknowns), least_bit(settled)))))
    return Settled(_plain_filling(task, told))


def how_many(task):
    """How many right plain fillings there are."""
    many, asked = 1, 0
    for rows, unknowns in parts_to_settle(task):
        many = many * count_bits(right_at_all(right_at(task, rows, unknowns), unknowns))
        asked = asked + len(unknowns)
    return many << (len(task.unknowns()) - asked)


def parts_to_settle(task):
    """The parts of the task; raises what a task that cannot be settled here raises."""
    need_task(task, "task")
    if not task.holes:
        raise Misfit("holes")
    parts = parts_of(task)
    if sum([len(unknowns) for _, unknowns in parts]) > MOST_UNKNOWNS:
        raise TooMany("unknowns", MOST_UNKNOWNS)
    return parts


def right_at(task, rows, unknowns):
    """For each of the rows the settings of the unknowns, as bits, with which its choice is right."""
    return [_right_at_row(task, row, unknowns) for row in rows]


def right_at_all(right, unknowns):
    """The settings of the unknowns, as bits, that are told to be right at each row."""
    found = all_bits(len(unknowns))
    for bits in right:
        found = found & bits
    return found


def _right_at_row(task, row, unknowns):
    every = all_bits(len(unknowns))
    right = task.right_at[row]
    worths = [every if (right >> number) & 1 else 0 for number in range(1 << len(task.holes))]
    told = dict(_with_bits(unknowns))
    # The row asks nothing but unknowns that are told, so others may have any sign.
    return bits_picked(worths, [told.get(unknown, 0) for unknown in enumerate(task.views_at[row])])


def _with_bits(unknowns):
    return [(unknown, bits_of_place(len(unknowns), at)) for at, unknown in enumerate(unknowns)]


def _as_asked(task, rows):
    # In this order the signs of one row are named soon, and the tree can end there.
    asked = [(hole, task.views_at[row][hole]) for row in rows for hole in asks(task, row)]
    return list({unknown: True for unknown in asked})


def _refusing(right, unknowns, left):
    # The bits left are those of the settings that the way still allows.
    for row, bits in right:
        if not bits & left:
            return row
    ((hole, view), ones), *others = unknowns
    return (hole, view, _refusing(right, others, left & ~ones), _refusing(right, others, left & ones))


def _plain_filling(task, told):
    return [
        [told.get((hole, view), 0) for view in range(1 << len(sight))] for hole, sight in enumerate(task.sights)
    ]
