"""Tasks: nets with holes, and a wire of theirs that shall be 1 at all rows."""

from holegates.checks import is_within
from holegates.errors import BadFilling, BadTask, NoHole
from holegates.nets import need_net, need_wire
from holegates.tables import all_bits, count_places, is_table, setting_told, told_in_twos
from holegates.wires import bits_with_holes, count_rows, need_row, numbers_at_rows


class Task:
    """A net and its wish, the wire that shall be 1 at all rows."""

    # What is asked again and again is worked out once, for all rows and choices together: views_at has
    # for each row the views of all holes, right_at an integer whose bits, at the numbers that the signs of
    # the choices tell in twos, tell which of them are right there.

    def __init__(self, net, wish):
        need_net(net, "net")
        need_wire(net, wish)
        self.net = net
        self.wish = wish
        self.many = count_rows(net)
        self.holes = net.holes
        self.sights = tuple([net.sources(name) for name in net.holes])
        bits = bits_with_holes(net)
        self.views_at = _views_at_rows(net, bits, self.sights)
        self.right_at = _right_at_rows(net, bits[wish])

    def __eq__(self, other):
        return type(self) is type(other) and self.net == other.net and self.wish == other.wish

    def view(self, hole, row):
        """What the hole sees at the row, as a number."""
        self._need_hole(hole)
        need_row(self.net, row)
        return self.views_at[row][hole]

    def right_choices(self, row):
        """The choices with which the wish is 1 at the row, ascending."""
        need_row(self.net, row)
        many, right = len(self.holes), self.right_at[row]
        return tuple([setting_told(many, number) for number in range(1 << many) if (right >> number) & 1])

    def unknowns(self):
        """All pairs of a hole and a view that some row has, ascending."""
        return tuple(sorted(set([pair for views in self.views_at for pair in enumerate(views)])))

    def choice(self, filling, row):
        """The choice of the filling at the row."""
        self._need_filling(filling)
        need_row(self.net, row)
        return self._made(filling, row)

    def is_right(self, filling):
        """Whether the choice of the filling is right at every row."""
        return self.first_wrong(filling) is None

    def first_wrong(self, filling):
        """The least row at which the choice of the filling is not right, None if there is none."""
        self._need_filling(filling)
        for row in range(self.many):
            if not (self.right_at[row] >> told_in_twos(self._made(filling, row))) & 1:
                return row
        return None

    def plain(self, filling):
        """The filling with 0 at all views that no row has."""
        self._need_filling(filling)
        had = [[views[hole] for views in self.views_at] for hole in range(len(self.holes))]
        return tuple([_kept(table, views) for table, views in zip(filling, had)])

    def filled(self, filling):
        """The net with the tables of the filling put in."""
        self._need_filling(filling)
        net = self.net
        for name, table in zip(self.holes, filling):
            net = net.put(name, table)
        return net

    def with_hole(self, hole, table):
        """The task in which this hole is a gate with this table."""
        self._need_hole(hole)
        return Task(self.net.put(self.holes[hole], table), self.wish)

    def _need_hole(self, hole):
        if not is_within(hole, 0, len(self.holes) - 1):
            raise NoHole(hole)

    def _need_filling(self, filling):
        if not is_filling(self, filling):
            raise BadFilling("filling")

    def _made(self, filling, row):
        return tuple([table[view] for table, view in zip(filling, self.views_at[row])])


def need_task(value, part):
    """Raises BadTask with this part for what is no task."""
    if not isinstance(value, Task):
        raise BadTask(part)


def is_filling(task, value):
    """Whether any value is a filling of the task."""
    if not isinstance(value, (list, tuple)) or len(value) != len(task.holes):
        return False
    return all([_has_places(table, len(sight)) for table, sight in zip(value, task.sights)])


def _has_places(value, places):
    return is_table(value) and count_places(value) == places


def _views_at_rows(net, bits, sights):
    seen = [numbers_at_rows(net, bits, sight) for sight in sights]
    return tuple([tuple([views[row] for views in seen]) for row in range(count_rows(net))])


def _right_at_rows(net, bits):
    # The choices at one row stand side by side.
    many = 1 << len(net.holes)
    every = all_bits(len(net.holes))
    return tuple([(bits >> (row * many)) & every for row in range(count_rows(net))])


def _kept(table, views):
    return tuple([sign if view in views else 0 for view, sign in enumerate(table)])
