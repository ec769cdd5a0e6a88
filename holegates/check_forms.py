"""Checks of the papers about forms."""

from holegates.checks import are_signs, is_within
from holegates.forms import Bends, Faithful, Sound, Strays, came_at, faithful, made_by_right, need_form, sound


def shows_sound(task, form, value):
    """Whether it is a Sound of a form that is so, or a Strays of any such row and choice."""
    need_form(task, form)
    # A class below one of these is another one, so isinstance would not do.
    if type(value) is Sound:
        return bool(sound(task, form))
    if type(value) is not Strays or not _is_told(task, value.row, value.signs):
        return False
    return came_at(task, form, value.row, value.signs) not in task.right_choices(value.row)


def shows_faithful(task, form, value):
    """Whether it is a Faithful of a form that is so, or a Bends of any such row and choice."""
    need_form(task, form)
    if type(value) is Faithful:
        return bool(faithful(task, form))
    if type(value) is not Bends or not _is_told(task, value.row, value.signs):
        return False
    if (value.row, value.signs) not in made_by_right(task):
        return False
    return came_at(task, form, value.row, value.signs) != value.signs


def _is_told(task, row, signs):
    return is_within(row, 0, task.many - 1) and are_signs(signs) and len(signs) == len(task.holes)
