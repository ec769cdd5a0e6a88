"""What a net is drawn of: whether inputs and gates make one, and which wires are sure."""

from holegates.checks import first_twice, is_name
from holegates.errors import BadNet, Misfit, NoWire, TooMany, Twice
from holegates.tables import count_places, is_table

MOST_INPUTS = 6
MOST_GATES = 24
MOST_HOLES = 4
MOST_SOURCES = 6


def check_drawing(inputs, gates):
    """Raises the first error of the inputs and gates of a net."""
    if not _are_names(inputs) or not inputs:
        raise BadNet("inputs")
    if not isinstance(gates, (list, tuple)) or not all([_is_gate(gate) for gate in gates]):
        raise BadNet("gates")
    _check_unlike(wires_of(inputs, gates))
    _check_sources_ahead(inputs, gates)
    for gate in gates:
        _check_unlike(gate[1])
    _check_places(gates)
    _check_holes_see_sure(inputs, gates)
    _check_not_too_many(inputs, gates)


def are_sources(value):
    """Whether it is a list of as many names as a gate may have as sources."""
    return _are_names(value) and len(value) <= MOST_SOURCES


def wires_of(inputs, gates):
    """The names of all wires, in their order."""
    return [*inputs, *[gate[0] for gate in gates]]


def holes_of(gates):
    """The names of the gates without a table, in their order."""
    return [name for name, _, table in gates if table is None]


def sure_wires(inputs, gates):
    """A dict that has just the names of the sure wires, in their order."""
    sure = {name: True for name in inputs}
    for name, sources, table in gates:
        if table is not None and _all_in(sources, sure):
            sure[name] = True
    return sure


def _are_names(value):
    return isinstance(value, (list, tuple)) and all([is_name(item) for item in value])


def _is_gate(value):
    if not isinstance(value, (list, tuple)) or len(value) != 3:
        return False
    name, sources, table = value
    return is_name(name) and are_sources(sources) and (table is None or is_table(table))


def _all_in(sources, known):
    return all([source in known for source in sources])


def _check_unlike(names):
    twice = first_twice(names)
    if twice is not None:
        raise Twice(twice)


def _check_sources_ahead(inputs, gates):
    ahead = {name: True for name in inputs}
    for name, sources, _ in gates:
        for source in sources:
            if source not in ahead:
                raise NoWire(source)
        ahead[name] = True


def _check_places(gates):
    for _, sources, table in gates:
        if table is not None and count_places(table) != len(sources):
            raise Misfit("places")


def _check_holes_see_sure(inputs, gates):
    sure = sure_wires(inputs, gates)
    for _, sources, table in gates:
        if table is None and not _all_in(sources, sure):
            raise Misfit("sure")


def _check_not_too_many(inputs, gates):
    if len(inputs) > MOST_INPUTS:
        raise TooMany("inputs", MOST_INPUTS)
    if len(gates) > MOST_GATES:
        raise TooMany("gates", MOST_GATES)
    if len(holes_of(gates)) > MOST_HOLES:
        raise TooMany("holes", MOST_HOLES)
