"""The parts of a task, which can be filled one by one."""

from holegates.tables import bits_of_place
from holegates.tasks import need_task
from holegates.wires import need_row


def asks(task, row):
    """The lot of the numbers of the holes that the row asks."""
    need_task(task, "task")
    need_row(task.net, row)
    many, right = len(task.holes), task.right_at[row]
    return tuple([hole for hole in range(many) if _matters(right, many, hole)])


def parts_of(task):
    """The parts of the task, pairs (rows, unknowns), by their least rows."""
    need_task(task, "task")
    parts, place = {}, {}
    for row in range(task.many):
        asked = [(hole, task.views_at[row][hole]) for hole in asks(task, row)]
        # What the row asks may join parts that had nothing in common ahead of it.
        joined = sorted(set([place[unknown] for unknown in asked if unknown in place]))
        rows, unknowns = [row], asked
        for least in joined:
            more = parts.pop(least)
            rows, unknowns = rows + more[0], unknowns + more[1]
        least = min(rows)
        parts[least] = (rows, unknowns)
        for unknown in unknowns:
            place[unknown] = least
    return tuple([(tuple(sorted(rows)), tuple(sorted(set(unknowns)))) for _, (rows, unknowns) in sorted(parts.items())])


def _matters(right, many, hole):
    # Turning the hole's sign from 0 to 1 makes the number of a choice greater by this step.
    ones = bits_of_place(many, hole)
    step = 1 << (many - 1 - hole)
    return (right ^ (right << step)) & ones != 0
