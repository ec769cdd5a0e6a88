"""Tasks with one hole: all tables that can stand in it, or two rows that bar them all."""

from holegates.checks import is_within
from holegates.errors import BadNumber, BadTable, Impossible, Misfit
from holegates.papers import Denial, Paper
from holegates.tables import follows, is_table, told_in_twos
from holegates.tasks import need_task


class Between(Paper):
    """The right plain tables are those from the least to the greatest."""

    def __init__(self, least, greatest):
        Paper.__init__(self, "between", least, greatest)
        self.least = self.parts[0]
        self.greatest = self.parts[1]


class Clash(Denial):
    """Two alike rows, or one row: the first one wants 1, the other one wants 0."""

    def __init__(self, one, other):
        Denial.__init__(self, "clash", one, other)
        self.one = self.parts[0]
        self.other = self.parts[1]


def between(task):
    """The Between of all right plain tables, or a Clash."""
    need_one_hole(task)
    views = [seen[0] for seen in task.views_at]
    clash = first_clash(task, views)
    if clash is not None:
        return Clash(clash[0], clash[1])
    ones = [views[row] for row in rows_wanting(task, 1)]
    zeros = [views[row] for row in rows_wanting(task, 0)]
    table = range(1 << len(task.sights[0]))
    greatest = [1 if view in views and view not in zeros else 0 for view in table]
    return Between([1 if view in ones else 0 for view in table], greatest)


def free_views(task):
    """The lot of the views that some row has, and of which nobody wants anything."""
    return _free_between(_need_between(task))


def how_many(task):
    """How many right plain tables there are."""
    found = between(task)
    return 1 << len(_free_between(found)) if found else 0


def table_at(task, number):
    """The right plain table that has this number among all of them, ascending."""
    found = _need_between(task)
    free = _free_between(found)
    if not is_within(number, 0, (1 << len(free)) - 1):
        raise BadNumber("number")
    table = list(found.least)
    for at, view in enumerate(reversed(free)):
        table[view] = (number >> at) & 1
    return tuple(table)


def number_of(task, table):
    """The number that the right plain table has among all of them, ascending."""
    found = _need_between(task)
    if not is_table(table) or not _is_between(found, table):
        raise BadTable("table")
    return told_in_twos([table[view] for view in _free_between(found)])


def wants(task, row, sign):
    """Whether the row of a task with one hole wants this sign."""
    return (task.right_at[row] >> (1 - sign)) & 1 == 0


def first_clash(task, seen):
    """The first pair of rows that see the same, as told for each row, one wanting 1 and the other 0; or None."""
    zeros = {}
    for row in rows_wanting(task, 0):
        zeros.setdefault(seen[row], row)
    for row in rows_wanting(task, 1):
        if seen[row] in zeros:
            return (row, zeros[seen[row]])
    return None


def rows_wanting(task, sign):
    """The rows of a task with one hole that want this sign, ascending."""
    return [row for row in range(task.many) if wants(task, row, sign)]


def need_one_hole(task):
    """Raises BadTask for what is no task, and Misfit for one that has not just one hole."""
    need_task(task, "task")
    if len(task.holes) != 1:
        raise Misfit("holes")


def _need_between(task):
    found = between(task)
    if not found:
        raise Impossible(found)
    return found


def _free_between(found):
    # The greatest is 0 at views that no row has, so these are left out.
    return tuple([view for view, sign in enumerate(found.greatest) if sign != found.least[view]])


def _is_between(found, table):
    if len(table) != len(found.least):
        return False
    return follows(found.least, table) and follows(table, found.greatest)
