"""The fewest rows that bar a task."""

from itertools import combinations

from holegates.errors import TooMany
from holegates.unlike import parts_to_settle, right_at, right_at_all

MOST_ROWS = 8


def fewest_rows(task):
    """Of the lots of the fewest rows that bar the task the first one, None if some filling is right."""
    unknowns = [unknown for _, asked in parts_to_settle(task) for unknown in asked]
    if task.many > MOST_ROWS:
        raise TooMany("rows", MOST_ROWS)
    right = right_at(task, list(range(task.many)), unknowns)
    for many in range(1, task.many + 1):
        for lot in combinations(range(task.many), many):
            if not right_at_all([right[row] for row in lot], unknowns):
                return lot
    return None
