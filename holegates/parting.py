"""The parts of a task, which can be filled one by one."""

from holegates.tasks import need_task


def asks(task, row):
    """The lot of the numbers of the holes that the row asks."""
    need_task(task, "task")
    right = task.right_choices(row)
    return tuple([hole for hole in range(len(task.holes)) if _matters(right, hole)])


def parts_of(task):
    """The parts of the task, pairs (rows, unknowns), by their least rows."""
    need_task(task, "task")
    parts = []
    for row in range(task.many):
        parts = _joined(parts, row, [(hole, task.view(hole, row)) for hole in asks(task, row)])
    return tuple(sorted([(tuple(sorted(rows)), tuple(sorted(set(unknowns)))) for rows, unknowns in parts]))


def _matters(right, hole):
    return any([_turned(choice, hole) not in right for choice in right])


def _turned(choice, hole):
    return tuple([1 - sign if at == hole else sign for at, sign in enumerate(choice)])


def _joined(parts, row, asked):
    # What the row asks may join parts that had nothing in common ahead of it.
    rows, unknowns, others = [row], asked, []
    for part in parts:
        if any([unknown in part[1] for unknown in asked]):
            rows = rows + part[0]
            unknowns = unknowns + part[1]
        else:
            others.append(part)
    return others + [(rows, unknowns)]
