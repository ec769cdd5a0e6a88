"""Checks of the papers about forms."""

from holegates.checks import are_signs, is_within
from holegates.climbs import Climb
from holegates.forms import Bends, Faithful, Sound, Strays, came_at, first_bend, first_stray, ladder_of_form
from holegates.tables import told_in_twos


def shows_sound(task, form, value):
    """Whether it is a Sound of a form that is so, or a Strays of any such row and choice."""
    order = ladder_of_form(task, form)
    # A class below one of these is another one, so isinstance would not do.
    if type(value) is Sound:
        return first_stray(task, order, form) is None
    if type(value) is not Strays or not _is_told(task, value.row, value.signs):
        return False
    came = came_at(order, form, task.views_at[value.row], value.signs)
    return (task.right_at[value.row] >> told_in_twos(came)) & 1 == 0


def shows_faithful(task, form, value):
    """Whether it is a Faithful of a form that is so, or a Bends of any such row and choice."""
    order = ladder_of_form(task, form)
    if type(value) is Faithful:
        return first_bend(task, order, form) is None
    if type(value) is not Bends or not _is_told(task, value.row, value.signs):
        return False
    if came_at(order, form, task.views_at[value.row], value.signs) == value.signs:
        return False
    return Climb(task, order).is_made_at(value.row, told_in_twos(value.signs))


def _is_told(task, row, signs):
    return is_within(row, 0, task.many - 1) and are_signs(signs) and len(signs) == len(task.holes)
