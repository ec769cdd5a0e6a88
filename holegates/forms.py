"""Forms of tasks with nested sights: tables with free places, which give a filling for any that is put in."""

from holegates.climbs import Climb
from holegates.errors import BadFilling, BadForm, Impossible, TooMany
from holegates.ladders import Trap, ladder
from holegates.papers import Denial, Paper, fixed
from holegates.tables import MOST_PLACES, count_places, is_table, setting_of, told_in_twos
from holegates.tasks import is_filling


class Sound(Paper):
    """Of each filling that is put in a right one comes."""

    def __init__(self):
        Paper.__init__(self, "sound")


class Strays(Denial):
    """Of the choice put in at this row a wrong one comes."""

    def __init__(self, row, signs):
        Denial.__init__(self, "strays", row, signs)
        self.row = self.parts[0]
        self.signs = self.parts[1]


class Faithful(Paper):
    """Each right plain filling comes of itself."""

    def __init__(self):
        Paper.__init__(self, "faithful")


class Bends(Denial):
    """Some right filling makes the choice at this row, and another one comes of it there."""

    def __init__(self, row, signs):
        Denial.__init__(self, "bends", row, signs)
        self.row = self.parts[0]
        self.signs = self.parts[1]


def is_form(task, value):
    """Whether any value is a form of the task."""
    return _is_form_along(task, _form_ladder(task), value)


def comes_of(task, form, free):
    """The plain filling that comes of the filling free, put in for the free places."""
    need_form(task, form)
    if not is_filling(task, free):
        raise BadFilling("free")
    tables = [[0] * (1 << len(sight)) for sight in task.sights]
    for row in range(task.many):
        for hole, sign in enumerate(came_at(task, form, row, task.choice(free, row))):
            tables[hole][task.view(hole, row)] = sign
    return fixed(tables)


def form_of(task):
    """The form made along the ladder, which is sound and faithful."""
    climb = Climb(task, _form_ladder(task))
    tree = climb.trap(climb.rows, ())
    if tree is not None:
        raise Impossible(Trap(tree))
    tables = [[0] * (1 << places) for places in _places(task, climb.order)]
    told = [(climb.rows, (), ())]
    for hole in climb.order:
        told = _put_on(climb, told, tables[hole])
    return fixed(tables)


def sound(task, form):
    """A Sound, or a Strays."""
    need_form(task, form)
    choices = _all_choices(task)
    for row in range(task.many):
        right = task.right_choices(row)
        for signs in choices:
            if came_at(task, form, row, signs) not in right:
                return Strays(row, signs)
    return Sound()


def faithful(task, form):
    """A Faithful, or a Bends."""
    need_form(task, form)
    for row, signs in made_by_right(task):
        if came_at(task, form, row, signs) != signs:
            return Bends(row, signs)
    return Faithful()


def need_form(task, form):
    """Raises what the task raises here, and BadForm for what is no form of it."""
    if not is_form(task, form):
        raise BadForm("form")


def came_at(task, form, row, choice):
    """The choice that comes at the row of a choice put in there."""
    came = [0] * len(task.holes)
    free = ()
    for hole in ladder(task):
        free = free + (choice[hole],)
        came[hole] = form[hole][_number(task.view(hole, row), free)]
    return tuple(came)


def made_by_right(task):
    """All pairs of a row and a choice that some right filling makes there, ascending."""
    climb = Climb(task, ladder(task))
    told = [(climb.rows, ())] if climb.is_won(climb.rows, ()) else []
    for step in range(len(climb.order)):
        told = [
            (seen, signs + (sign,)) for rows, signs in told for _, seen in climb.parted(rows, step)
            for sign in (0, 1) if climb.is_won(seen, signs + (sign,))
        ]
    return sorted([(row, _by_hole(climb.order, signs)) for rows, signs in told for row in rows])


def _form_ladder(task):
    order = ladder(task)
    if max(_places(task, order)) > MOST_PLACES:
        raise TooMany("places", MOST_PLACES)
    return order


def _places(task, order):
    # A free place for each hole of the ladder up to the one itself.
    return [len(sight) + order.index(hole) + 1 for hole, sight in enumerate(task.sights)]


def _is_form_along(task, order, value):
    if not isinstance(value, (list, tuple)) or len(value) != len(task.holes):
        return False
    return all([
        is_table(table) and count_places(table) == places for table, places in zip(value, _places(task, order))
    ])


def _number(view, free):
    return (view << len(free)) + told_in_twos(free)


def _all_choices(task):
    many = len(task.holes)
    return [setting_of(many, number) for number in range(1 << many)]


def _by_hole(order, signs):
    chosen = dict(zip(order, signs))
    return tuple([chosen[hole] for hole in range(len(order))])


def _put_on(climb, told, table):
    # Of rows, what was put in and what came the same, for one step more of the ladder.
    longer = []
    for rows, free, came in told:
        for view, seen in climb.parted(rows, len(came)):
            for put in (0, 1):
                sign = put if climb.is_won(seen, came + (put,)) else 1 - put
                table[_number(view, free + (put,))] = sign
                longer.append((seen, free + (put,), came + (sign,)))
    return longer
