"""The signs that the wires of nets have."""

from holegates.checks import are_signs, is_within
from holegates.errors import BadNumber, Misfit, NoRow, NoWire
from holegates.nets import is_wire, need_net
from holegates.papers import Denial, Paper
from holegates.tables import all_bits, bits_of_place, bits_picked, setting_of, told_in_twos


class Alike(Paper):
    """Two wires have the same signs."""

    def __init__(self):
        Paper.__init__(self, "alike")


class Unlike(Denial):
    """Two wires have unlike signs at this row."""

    def __init__(self, row):
        Denial.__init__(self, "unlike", row)
        self.row = self.parts[0]


def run(net, row, choice):
    """The signs of all wires at the row, with the choice."""
    need_net(net, "net")
    need_row(net, row)
    if not are_signs(choice) or len(choice) != len(net.holes):
        raise BadNumber("choice")
    signs = signs_at(net, row, choice)
    return tuple([signs[name] for name in net.wires])


def column(net, name):
    """The table of the signs of a sure wire at all rows."""
    need_net(net, "net")
    if not net.is_sure(name):
        raise Misfit("hole")
    return _signs_of(net, name)


def same_wire(one, other, name):
    """Whether the wire has the same signs in both nets: an Alike or an Unlike."""
    need_net(one, "one")
    need_net(other, "other")
    if not is_wire(one, name) or not is_wire(other, name):
        raise NoWire(name)
    if one.holes or other.holes:
        raise Misfit("holes")
    if one.inputs != other.inputs:
        raise Misfit("inputs")
    for row, (first, second) in enumerate(zip(_signs_of(one, name), _signs_of(other, name))):
        if first != second:
            return Unlike(row)
    return Alike()


def count_rows(net):
    """How many rows the net has."""
    return 1 << len(net.inputs)


def need_row(net, row):
    """Raises NoRow for what is no row of the net."""
    if not is_within(row, 0, count_rows(net) - 1):
        raise NoRow(row)


def signs_at(net, row, choice):
    """As run, for what surely fits: a dict of the signs by the names of the wires."""
    signs = dict(zip(net.inputs, setting_of(len(net.inputs), row)))
    chosen = dict(zip(net.holes, choice))
    for name, sources, table in net.gates:
        if table is None:
            signs[name] = chosen[name]
        else:
            signs[name] = table[told_in_twos([signs[source] for source in sources])]
    return signs


def worths_of(net, places):
    """By the names of the gates with a table the signs of it, each as bits in all settings of so many places."""
    every = all_bits(places)
    return {name: [every if sign else 0 for sign in table] for name, _, table in net.gates if table is not None}


def bits_of_wires(net, places, worths):
    """By the names of the wires their signs, as bits, in all settings of so many places, the inputs being the first.

    The worths tell, by the names of the gates, the signs that these have at the settings of their sources.
    """
    told = {name: bits_of_place(places, at) for at, name in enumerate(net.inputs)}
    for name, sources, _ in net.gates:
        told[name] = bits_picked(worths[name], [told[source] for source in sources])
    return told


def any_choice(net):
    """A choice, for what is the same with each one."""
    return [0] * len(net.holes)


def _signs_of(net, name):
    return tuple([signs_at(net, row, any_choice(net))[name] for row in range(count_rows(net))])
