"""Gates of nets without holes that can be put anew, so that the wish is 1 at all rows."""

from itertools import combinations

from holegates.checks import first_twice
from holegates.drawings import are_sources
from holegates.errors import BadNet, Misfit, NoWire, TooMany, Twice
from holegates.nets import need_gate, need_net, need_wire
from holegates.single import between
from holegates.tasks import Task

MOST_GATES = 12


def mend(net, wish, name, sources=None):
    """The Between or the Clash of the gate struck, with its own sources or with these."""
    need_net(net, "net")
    need_wire(net, wish)
    need_gate(net, name)
    if sources is not None:
        _need_sources_ahead(net, name, sources)
    need_no_holes(net)
    return between(Task(net.struck(name, sources), wish))


def mendable(net, wish):
    """The names of the gates that can be put anew with their own sources, in order."""
    _need_whole(net, wish)
    return tuple([name for name, _, _ in net.gates if mend(net, wish, name)])


def mendable_by_all(net, wish):
    """The names of the gates that can be put anew, each seeing just all inputs, in order."""
    _need_whole(net, wish)
    return tuple([name for name, _, _ in net.gates if mend(net, wish, name, net.inputs)])


def two_mends(net, wish):
    """The pairs of names of gates, neither mendable by all, that can be put anew together, both seeing all inputs."""
    _need_whole(net, wish)
    if len(net.gates) > MOST_GATES:
        raise TooMany("gates", MOST_GATES)
    alone = mendable_by_all(net, wish)
    others = [name for name, _, _ in net.gates if name not in alone]
    return tuple([(one, other) for one, other in combinations(others, 2) if _are_mended(net, wish, one, other)])


def need_no_holes(net):
    """Raises Misfit for a net with holes."""
    if net.holes:
        raise Misfit("holes")


def _need_whole(net, wish):
    need_net(net, "net")
    need_wire(net, wish)
    need_no_holes(net)


def _need_sources_ahead(net, name, sources):
    if not are_sources(sources):
        raise BadNet("sources")
    ahead = net.wires[:net.wires.index(name)]
    for source in sources:
        if source not in ahead:
            raise NoWire(source)
    twice = first_twice(sources)
    if twice is not None:
        raise Twice(twice)


def _are_mended(net, wish, one, other):
    task = Task(net.struck(one, net.inputs).struck(other, net.inputs), wish)
    # Both see all inputs, so they can make any choice at each row.
    return all([right != 0 for right in task.right_at])
