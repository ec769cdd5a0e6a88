"""Forms of tasks with nested sights: tables with free places, which give a filling for any that is put in."""

from holegates.climbs import Climb
from holegates.errors import BadFilling, BadForm, Impossible, TooMany
from holegates.ladders import Trap, ladder
from holegates.papers import Denial, Paper, fixed
from holegates.tables import MOST_PLACES, count_places, is_table, setting_told
from holegates.tasks import is_filling


class Sound(Paper):
    """Of each filling that is put in a right one comes."""

    def __init__(self):
        Paper.__init__(self, "sound")


class Strays(Denial):
    """Of the choice put in at this row a wrong one comes."""

    def __init__(self, row, signs):
        Denial.__init__(self, "strays", row, signs)
        self.row = self.parts[0]
        self.signs = self.parts[1]


class Faithful(Paper):
    """Each right plain filling comes of itself."""

    def __init__(self):
        Paper.__init__(self, "faithful")


class Bends(Denial):
    """Some right filling makes the choice at this row, and another one comes of it there."""

    def __init__(self, row, signs):
        Denial.__init__(self, "bends", row, signs)
        self.row = self.parts[0]
        self.signs = self.parts[1]


def is_form(task, value):
    """Whether any value is a form of the task."""
    return _is_form_along(task, _form_ladder(task), value)


def comes_of(task, form, free):
    """The plain filling that comes of the filling free, put in for the free places."""
    order = ladder_of_form(task, form)
    if not is_filling(task, free):
        raise BadFilling("free")
    tables = [[0] * (1 << len(sight)) for sight in task.sights]
    for views in task.views_at:
        choice = [table[view] for table, view in zip(free, views)]
        for hole, sign in enumerate(came_at(order, form, views, choice)):
            tables[hole][views[hole]] = sign
    return fixed(tables)


def form_of(task):
    """The form made along the ladder, which is sound and faithful."""
    climb = Climb(task, _form_ladder(task))
    if not climb.top.is_won(0):
        raise Impossible(Trap(climb.trap(climb.top, 0)))
    tables = [[0] * (1 << places) for places in _places(task, climb.order)]
    told, places = [(climb.top, [0])], [0]
    for hole in climb.order:
        places = _one_place_more(places)
        longer = []
        for spot, came in told:
            for later in spot.further:
                signs = _won_signs(spot, later, came)
                for place, sign in zip(places, signs):
                    tables[hole][_number(later.seen, later.many, place)] = sign
                longer.append((later, _longer(spot, came, signs)))
        told = longer
    return fixed(tables)


def sound(task, form):
    """A Sound, or a Strays."""
    found = first_stray(task, ladder_of_form(task, form), form)
    return Sound() if found is None else Strays(found[0], found[1])


def faithful(task, form):
    """A Faithful, or a Bends."""
    found = first_bend(task, ladder_of_form(task, form), form)
    return Faithful() if found is None else Bends(found[0], found[1])


def ladder_of_form(task, form):
    """The ladder of a task with forms; raises what the task raises here, and BadForm for what is no form of it."""
    order = _form_ladder(task)
    if not _is_form_along(task, order, form):
        raise BadForm("form")
    return order


def came_at(order, form, views, choice):
    """The choice that comes of a choice put in at a row with these views, both told by the numbers of the holes."""
    came = [0] * len(order)
    place = 0
    for at, hole in enumerate(order):
        place = 2 * place + choice[hole]
        came[hole] = form[hole][_number(views[hole], at + 1, place)]
    return tuple(came)


def first_stray(task, order, form):
    """The first row and choice put in there of which a wrong one comes, or None."""
    known = {}
    for row, views in enumerate(task.views_at):
        for choice, came in enumerate(_all_came(order, form, views, known)):
            if not (task.right_at[row] >> came) & 1:
                return (row, setting_told(len(order), choice))
    return None


def first_bend(task, order, form):
    """The first row and choice that some right filling makes there and of which another one comes, or None."""
    known = {}
    climb = Climb(task, order)
    for row, views in enumerate(task.views_at):
        for choice, came in enumerate(_all_came(order, form, views, known)):
            if came != choice and climb.is_made_at(row, choice):
                return (row, setting_told(len(order), choice))
    return None


def _all_came(order, form, views, known):
    # The numbers of the choices that come at a row with these views, by those of the choices put in.
    if views not in known:
        known[views] = _came_of_all(order, form, views)
    return known[views]


def _came_of_all(order, form, views):
    found = [(0, 0, 0)]
    for at, hole in enumerate(order):
        table, first = form[hole], views[hole] << (at + 1)
        weight = 1 << (len(order) - 1 - hole)
        # The free places, what was put in, and what came.
        found = [
            (2 * place + sign, put + sign * weight, came + table[first + 2 * place + sign] * weight)
            for place, put, came in found for sign in (0, 1)
        ]
    return [came for _, came in sorted([(put, came) for _, put, came in found])]


def _form_ladder(task):
    order = ladder(task)
    if max(_places(task, order)) > MOST_PLACES:
        raise TooMany("places", MOST_PLACES)
    return order


def _places(task, order):
    # A free place for each hole of the ladder up to the one itself.
    return [len(sight) + order.index(hole) + 1 for hole, sight in enumerate(task.sights)]


def _is_form_along(task, order, value):
    if not isinstance(value, (list, tuple)) or len(value) != len(task.holes):
        return False
    return all([
        is_table(table) and count_places(table) == places for table, places in zip(value, _places(task, order))
    ])


def _number(view, many, place):
    # The number of a setting: of the view, and behind it of as many free places as are told.
    return (view << many) + place


def _one_place_more(places):
    # A spot counts the first of its signs least, a table most. For all numbers of signs at a spot these are
    # those of the free places of a table.
    return [2 * place + sign for sign in (0, 1) for place in places]


def _longer(spot, came, signs):
    # The numbers of what came, with the signs of one hole more, by the numbers of what was put in.
    return [number + (sign << spot.many) for number, sign in zip(came + came, signs)]


def _won_signs(spot, later, came):
    # The sign put in, if it is won with the signs that came ahead; the other one, if not.
    zeros = [0 if later.is_won(number) else 1 for number in came]
    ones = [1 if later.is_won(number + (1 << spot.many)) else 0 for number in came]
    return zeros + ones
