"""Tasks with nested sights: a plan, or a trap that bars all fillings."""

from holegates.climbs import Climb
from holegates.errors import Misfit
from holegates.papers import Denial, Paper
from holegates.tasks import need_task


class Plan(Paper):
    """A right filling."""

    def __init__(self, filling):
        Paper.__init__(self, "plan", filling)
        self.filling = self.parts[0]


class Trap(Denial):
    """A tree of views that leads to a row with a wrong choice, whatever signs are chosen."""

    def __init__(self, tree):
        Denial.__init__(self, "trap", tree)
        self.tree = self.parts[0]


def ladder(task):
    """The numbers of the holes as they stand on the ladder."""
    need_task(task, "task")
    if not task.holes:
        raise Misfit("holes")
    order = tuple([hole for _, hole in sorted([(len(sight), hole) for hole, sight in enumerate(task.sights)])])
    for ahead, behind in zip(order, order[1:]):
        if any([source not in task.sights[behind] for source in task.sights[ahead]]):
            raise Misfit("sights")
    return order


def plan(task):
    """A Plan with a plain filling, or a Trap."""
    climb = climb_of(task)
    return Plan(_won_filling(task, climb)) if climb.top.is_won(0) else Trap(climb.trap(climb.top, 0))


def how_many(task):
    """How many right plain fillings there are."""
    return _ways(climb_of(task).top)[0]


def climb_of(task):
    """The climb along the task's ladder; raises what ladder raises."""
    return Climb(task, ladder(task))


def _won_filling(task, climb):
    tables = [[0] * (1 << len(sight)) for sight in task.sights]
    told = [(climb.top, 0)]
    for hole in climb.order:
        longer = []
        for spot, number in told:
            for later in spot.further:
                sign = 0 if later.is_won(number) else 1
                tables[hole][later.seen] = sign
                longer.append((later, number + (sign << spot.many)))
        told = longer
    return tables


def _ways(spot):
    # For each number of signs how many ways lead on. The choices at unlike views are free of one another,
    # so what both signs of the next hole have together is multiplied over its views.
    if not spot.further:
        return [1 if spot.is_won(number) else 0 for number in range(1 << spot.many)]
    ways = [1] * (1 << spot.many)
    for later in spot.further:
        more = _ways(later)
        ways = [many * (zero + one) for many, zero, one in zip(ways, more, more[len(ways):])]
    return ways
