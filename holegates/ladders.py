"""Tasks with nested sights: a plan, or a trap that bars all fillings."""

from holegates.climbs import Climb
from holegates.errors import Misfit
from holegates.papers import Denial, Paper
from holegates.tasks import need_task


class Plan(Paper):
    """A right filling."""

    def __init__(self, filling):
        Paper.__init__(self, "plan", filling)
        self.filling = self.parts[0]


class Trap(Denial):
    """A tree of views that leads to a row with a wrong choice, whatever signs are chosen."""

    def __init__(self, tree):
        Denial.__init__(self, "trap", tree)
        self.tree = self.parts[0]


def ladder(task):
    """The numbers of the holes as they stand on the ladder."""
    need_task(task, "task")
    if not task.holes:
        raise Misfit("holes")
    order = tuple([hole for _, hole in sorted([(len(sight), hole) for hole, sight in enumerate(task.sights)])])
    for ahead, behind in zip(order, order[1:]):
        if any([source not in task.sights[behind] for source in task.sights[ahead]]):
            raise Misfit("sights")
    return order


def plan(task):
    """A Plan with a plain filling, or a Trap."""
    climb = Climb(task, ladder(task))
    tree = climb.trap(climb.rows, ())
    return Plan(_won_filling(climb)) if tree is None else Trap(tree)


def how_many(task):
    """How many right plain fillings there are."""
    climb = Climb(task, ladder(task))
    return _ways(climb, climb.rows, ())


def _won_filling(climb):
    tables = [[0] * (1 << len(sight)) for sight in climb.task.sights]
    told = [(climb.rows, ())]
    for step, hole in enumerate(climb.order):
        longer = []
        for rows, signs in told:
            for view, seen in climb.parted(rows, step):
                sign = 0 if climb.is_won(seen, signs + (0,)) else 1
                tables[hole][view] = sign
                longer.append((seen, signs + (sign,)))
        told = longer
    return tables


def _ways(climb, rows, signs):
    # The choices at unlike views are free of one another, so their numbers are multiplied.
    if len(signs) == len(climb.order):
        return 1 if climb.is_won(rows, signs) else 0
    many = 1
    for _, seen in climb.parted(rows, len(signs)):
        many = many * (_ways(climb, seen, signs + (0,)) + _ways(climb, seen, signs + (1,)))
    return many
