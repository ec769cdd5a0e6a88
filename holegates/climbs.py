"""Going along the ladder of a task with nested sights: what is won, and what bars the way."""


class Climb:
    """The rows of a task as the holes of its ladder see them; signs are told in the order of the ladder."""

    def __init__(self, task, order):
        self.task = task
        self.order = order
        self.rows = tuple(range(task.many))
        self._right = tuple([_told_along(task.right_choices(row), order) for row in self.rows])

    def parted(self, rows, step):
        """The views that the hole at this step has at the rows, ascending, each with its rows."""
        found = {}
        for row in rows:
            found.setdefault(self.task.view(self.order[step], row), []).append(row)
        return [(view, found[view]) for view in sorted(found)]

    def trap(self, rows, signs):
        """What bars going on from the signs at the rows with these views: a tree, or a row; None if they are won."""
        if len(signs) == len(self.order):
            return self._first_wrong(rows, signs)
        for view, seen in self.parted(rows, len(signs)):
            zero = self.trap(seen, signs + (0,))
            one = None if zero is None else self.trap(seen, signs + (1,))
            if one is not None:
                return (view, zero, one)
        return None

    def is_won(self, rows, signs):
        """Whether the signs can be gone on with at the rows with these views."""
        return self.trap(rows, signs) is None

    def is_wrong_at(self, row, signs):
        """Whether the choice of these signs, one for each hole, is wrong at the row."""
        return signs not in self._right[row]

    def _first_wrong(self, rows, signs):
        for row in rows:
            if self.is_wrong_at(row, signs):
                return row
        return None


def _told_along(choices, order):
    return [tuple([choice[hole] for hole in order]) for choice in choices]
