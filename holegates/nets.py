"""Nets of gates, some of which may be holes."""

from holegates.checks import is_name
from holegates.drawings import are_sources, check_drawing, holes_of, sure_wires, wires_of
from holegates.errors import BadNet, NoWire
from holegates.nettexts import net_told
from holegates.tables import need_table, table_text


class Net:
    """Inputs, and gates one behind another, each with sources ahead of it; holes have no table."""

    def __init__(self, inputs, gates):
        check_drawing(inputs, gates)
        self.inputs = tuple(inputs)
        self.gates = tuple([_copied(gate) for gate in gates])
        self.wires = tuple(wires_of(inputs, gates))
        self.holes = tuple(holes_of(gates))
        self._sure = sure_wires(inputs, gates)

    def __eq__(self, other):
        return type(self) is type(other) and self.inputs == other.inputs and self.gates == other.gates

    def __str__(self):
        gates = " / ".join([_gate_text(gate) for gate in self.gates])
        return " ".join([*self.inputs, ":", gates] if gates else [*self.inputs, ":"])

    @staticmethod
    def read(text):
        """The net that has this text."""
        inputs, gates = net_told(text)
        return Net(inputs, gates)

    def sources(self, name):
        """The sources of the wire, none of an input."""
        need_wire(self, name)
        return _sources(self.gates, name)

    def behind(self, name):
        """The names of the wires that hang on this one, in order."""
        need_wire(self, name)
        found = [name]
        for gate, sources, _ in self.gates:
            if any([source in found for source in sources]):
                found.append(gate)
        return tuple(found[1:])

    def is_sure(self, name):
        """Whether the wire is no hole and hangs on none."""
        need_wire(self, name)
        return name in self._sure

    def put(self, name, table):
        """The net in which this gate has this table."""
        need_gate(self, name)
        need_table(table, "table")
        return self._with_gate(name, _sources(self.gates, name), table)

    def struck(self, name, sources=None):
        """The net in which this gate is a hole, with its own sources or these."""
        need_gate(self, name)
        if sources is None:
            return self._with_gate(name, _sources(self.gates, name), None)
        if not are_sources(sources):
            raise BadNet("sources")
        return self._with_gate(name, sources, None)

    def _with_gate(self, name, sources, table):
        # All other gates fit, so the errors of the new net are those of this gate.
        gates = [(name, sources, table) if gate[0] == name else gate for gate in self.gates]
        return Net(self.inputs, gates)


def need_net(value, part):
    """Raises BadNet with this part for what is no net."""
    if not isinstance(value, Net):
        raise BadNet(part)


def is_wire(net, value):
    """Whether any value is the name of a wire of the net."""
    return is_name(value) and value in net.wires


def need_wire(net, name):
    """Raises NoWire for what is no wire of the net."""
    if not is_wire(net, name):
        raise NoWire(name)


def need_gate(net, name):
    """Raises NoWire for what is no gate of the net."""
    if not is_wire(net, name) or name in net.inputs:
        raise NoWire(name)


def _copied(gate):
    name, sources, table = gate
    return (name, tuple(sources), None if table is None else tuple(table))


def _sources(gates, name):
    for gate, sources, _ in gates:
        if gate == name:
            return sources
    return ()


def _gate_text(gate):
    name, sources, table = gate
    return " ".join([name, "?" if table is None else table_text(table), *sources])
