"""The signs that the wires of nets have."""

from holegates.checks import are_signs, is_within
from holegates.errors import BadNumber, Misfit, NoRow, NoWire
from holegates.nets import is_wire, need_net
from holegates.papers import Denial, Paper
from holegates.tables import all_bits, bits_of_place, bits_picked, least_bit, setting_of, told_in_twos


class Alike(Paper):
    """Two wires have the same signs."""

    def __init__(self):
        Paper.__init__(self, "alike")


class Unlike(Denial):
    """Two wires have unlike signs at this row."""

    def __init__(self, row):
        Denial.__init__(self, "unlike", row)
        self.row = self.parts[0]


def run(net, row, choice):
    """The signs of all wires at the row, with the choice."""
    need_net(net, "net")
    need_row(net, row)
    if not are_signs(choice) or len(choice) != len(net.holes):
        raise BadNumber("choice")
    signs = dict(zip(net.inputs + net.holes, [*setting_of(len(net.inputs), row), *choice]))
    for name, sources, table in net.gates:
        if table is not None:
            signs[name] = table[told_in_twos([signs[source] for source in sources])]
    return tuple([signs[name] for name in net.wires])


def column(net, name):
    """The table of the signs of a sure wire at all rows."""
    need_net(net, "net")
    if not net.is_sure(name):
        raise Misfit("hole")
    return tuple(signs_at_rows(net, bits_with_holes(net), name))


def same_wire(one, other, name):
    """Whether the wire has the same signs in both nets: an Alike or an Unlike."""
    need_net(one, "one")
    need_net(other, "other")
    if not is_wire(one, name) or not is_wire(other, name):
        raise NoWire(name)
    if one.holes or other.holes:
        raise Misfit("holes")
    if one.inputs != other.inputs:
        raise Misfit("inputs")
    turned = bits_with_holes(one)[name] ^ bits_with_holes(other)[name]
    return Unlike(least_bit(turned)) if turned else Alike()


def count_rows(net):
    """How many rows the net has."""
    return 1 << len(net.inputs)


def need_row(net, row):
    """Raises NoRow for what is no row of the net."""
    if not is_within(row, 0, count_rows(net) - 1):
        raise NoRow(row)


def bits_with_holes(net):
    """By the names of the wires their signs, as bits, in all settings of the inputs and, behind them, of the holes."""
    places = len(net.inputs) + len(net.holes)
    return bits_of_wires(net, places, worths_of(net, places))


def worths_of(net, places):
    """By the names of the gates with a table its signs, each as bits in all settings of so many places."""
    every = all_bits(places)
    return {name: [every if sign else 0 for sign in table] for name, _, table in net.gates if table is not None}


def bits_of_wires(net, places, worths):
    """By the names of the wires their signs, as bits, in all settings of so many places.

    The first places are those of the inputs, then those of the holes. The worths tell, by the names of
    the other gates, what they have at the settings of their sources.
    """
    told = {name: bits_of_place(places, at) for at, name in enumerate(net.inputs + net.holes)}
    for name, sources, table in net.gates:
        if table is not None:
            told[name] = bits_picked(worths[name], [told[source] for source in sources])
    return told


def signs_at_rows(net, bits, name):
    """The signs of a sure wire at all rows, told by what bits_with_holes gives."""
    # They are the same with each choice, so those with the first one will do.
    return [(bits[name] >> (row << len(net.holes))) & 1 for row in range(count_rows(net))]


def numbers_at_rows(net, bits, names):
    """For each row the number of the setting that these sure wires have there."""
    numbers = [0] * count_rows(net)
    for name in names:
        numbers = [2 * number + sign for number, sign in zip(numbers, signs_at_rows(net, bits, name))]
    return numbers
