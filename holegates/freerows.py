"""Rows of gates that do not matter: their signs can be turned, and the wish is 1 at all rows still."""

from holegates.checks import is_integer, is_name, is_within
from holegates.errors import BadNumber, Impossible, NoRow, TooMany, Twice
from holegates.mends import need_no_holes
from holegates.nets import need_gate, need_net, need_wire
from holegates.papers import Denial, Paper
from holegates.tables import all_bits, bits_of_place, least_bit, setting_told
from holegates.tasks import Task
from holegates.wires import bits_of_wires, worths_of

MOST_PAIRS = 8


class Wrong(Denial):
    """The wish is 0 at this row."""

    def __init__(self, row):
        Denial.__init__(self, "wrong", row)
        self.row = self.parts[0]


class Idle(Paper):
    """The wish is 1 at all rows, whatever signs some gates have at some settings."""

    def __init__(self):
        Paper.__init__(self, "idle")


class Matters(Denial):
    """With these signs of some gates at some settings the wish is 0 at this row."""

    def __init__(self, row, signs):
        Denial.__init__(self, "matters", row, signs)
        self.row = self.parts[0]
        self.signs = self.parts[1]


def free_rows(net, wish, name):
    """The lot of the numbers of the gate's free rows."""
    need_net(net, "net")
    need_wire(net, wish)
    need_gate(net, name)
    need_no_holes(net)
    wrong = Task(net, wish).first_wrong(())
    if wrong is not None:
        raise Impossible(Wrong(wrong))
    task = Task(net.struck(name), wish)
    # At each row the sign that the gate has is right; if the other one is not, it is held.
    held = [views[0] for views, right in zip(task.views_at, task.right_at) if right != all_bits(1)]
    return tuple([number for number in range(1 << len(net.sources(name))) if number not in held])


def idle(net, wish, rows):
    """An Idle if the wish is 1 at all rows whatever signs the gates have at these settings at once, or a Matters."""
    need_pairs(net, wish, rows)
    places = len(net.inputs) + len(rows)
    wrong = all_bits(places) ^ bits_of_wish(net, wish, rows)
    if not wrong:
        return Idle()
    case = least_bit(wrong)
    return Matters(case >> len(rows), setting_told(places, case)[len(net.inputs):])


def bits_of_wish(net, wish, rows):
    """The signs of the wish, as bits, in all settings of the inputs and, behind them, of a sign for each pair."""
    places = len(net.inputs) + len(rows)
    worths = worths_of(net, places)
    for at, (name, number) in enumerate(rows):
        worths[name][number] = bits_of_place(places, len(net.inputs) + at)
    return bits_of_wires(net, places, worths)[wish]


def need_pairs(net, wish, rows):
    """Raises what a net, a wish and pairs raise of which idle cannot tell anything."""
    need_net(net, "net")
    need_wire(net, wish)
    if not isinstance(rows, (list, tuple)) or not all([_is_pair(pair) for pair in rows]):
        raise BadNumber("rows")
    for name, number in rows:
        need_gate(net, name)
        if not is_within(number, 0, (1 << len(net.sources(name))) - 1):
            raise NoRow(number)
    _need_unlike(rows)
    need_no_holes(net)
    if len(rows) > MOST_PAIRS:
        raise TooMany("pairs", MOST_PAIRS)


def _is_pair(value):
    return isinstance(value, (list, tuple)) and len(value) == 2 and is_name(value[0]) and is_integer(value[1])


def _need_unlike(rows):
    seen = set()
    for pair in rows:
        # The error keeps the pair as it was passed, perhaps a list.
        if tuple(pair) in seen:
            raise Twice(pair)
        seen.add(tuple(pair))
