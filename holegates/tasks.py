"""Tasks: nets with holes, and a wire of theirs that shall be 1 at all rows."""

from holegates.checks import is_within
from holegates.errors import BadFilling, BadTask, NoHole
from holegates.nets import need_net, need_wire
from holegates.tables import count_places, is_table, setting_of, told_in_twos
from holegates.wires import any_choice, count_rows, need_row, signs_at


class Task:
    """A net and its wish, the wire that shall be 1 at all rows."""

    def __init__(self, net, wish):
        need_net(net, "net")
        need_wire(net, wish)
        self.net = net
        self.wish = wish
        self.many = count_rows(net)
        self.holes = net.holes
        self.sights = tuple([net.sources(name) for name in net.holes])
        self._views = tuple([_views_at(net, self.sights, row) for row in range(self.many)])

    def __eq__(self, other):
        return type(self) is type(other) and self.net == other.net and self.wish == other.wish

    def view(self, hole, row):
        """What the hole sees at the row, as a number."""
        self._need_hole(hole)
        need_row(self.net, row)
        return self._views[row][hole]

    def right_choices(self, row):
        """The choices with which the wish is 1 at the row, ascending."""
        need_row(self.net, row)
        many = len(self.holes)
        choices = [setting_of(many, number) for number in range(1 << many)]
        return tuple([choice for choice in choices if self._is_right_at(row, choice)])

    def unknowns(self):
        """All pairs of a hole and a view that some row has, ascending."""
        return tuple(sorted(set([pair for views in self._views for pair in enumerate(views)])))

    def choice(self, filling, row):
        """The choice of the filling at the row."""
        self._need_filling(filling)
        need_row(self.net, row)
        return self._made(filling, row)

    def is_right(self, filling):
        """Whether the choice of the filling is right at every row."""
        return self.first_wrong(filling) is None

    def first_wrong(self, filling):
        """The least row at which the choice of the filling is wrong, None if there is none."""
        self._need_filling(filling)
        for row in range(self.many):
            if not self._is_right_at(row, self._made(filling, row)):
                return row
        return None

    def plain(self, filling):
        """The filling with 0 at all views that no row has."""
        self._need_filling(filling)
        had = self.unknowns()
        return tuple([_kept(table, [view for at, view in had if at == hole]) for hole, table in enumerate(filling)])

    def filled(self, filling):
        """The net with the tables of the filling put in."""
        self._need_filling(filling)
        net = self.net
        for name, table in zip(self.holes, filling):
            net = net.put(name, table)
        return net

    def with_hole(self, hole, table):
        """The task in which this hole is a gate with this table."""
        self._need_hole(hole)
        return Task(self.net.put(self.holes[hole], table), self.wish)

    def _need_hole(self, hole):
        if not is_within(hole, 0, len(self.holes) - 1):
            raise NoHole(hole)

    def _need_filling(self, filling):
        if not is_filling(self, filling):
            raise BadFilling("filling")

    def _made(self, filling, row):
        return tuple([table[view] for table, view in zip(filling, self._views[row])])

    def _is_right_at(self, row, choice):
        return signs_at(self.net, row, choice)[self.wish] == 1


def need_task(value, part):
    """Raises BadTask with this part for what is no task."""
    if not isinstance(value, Task):
        raise BadTask(part)


def is_filling(task, value):
    """Whether any value is a filling of the task."""
    if not isinstance(value, (list, tuple)) or len(value) != len(task.holes):
        return False
    return all([_has_places(table, len(sight)) for table, sight in zip(value, task.sights)])


def _has_places(value, places):
    return is_table(value) and count_places(value) == places


def _views_at(net, sights, row):
    # Sources of holes are sure, so any choice tells their signs.
    signs = signs_at(net, row, any_choice(net))
    return tuple([told_in_twos([signs[source] for source in sight]) for sight in sights])


def _kept(table, views):
    return tuple([sign if view in views else 0 for view, sign in enumerate(table)])
