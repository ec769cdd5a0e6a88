"""Which wires the one hole of a task must see: whether some are enough, and which lots are tight."""

from itertools import combinations

from holegates.checks import first_twice
from holegates.errors import Misfit, NoWire, TooMany, Twice
from holegates.nets import need_wire
from holegates.papers import Denial, Paper
from holegates.single import first_clash, need_one_hole, rows_wanting
from holegates.tables import told_in_twos
from holegates.tasks import need_task
from holegates.wires import bits_with_holes, numbers_at_rows

MOST_WIRES = 8


class Enough(Paper):
    """A table of some wires that has a right choice at each row."""

    def __init__(self, table):
        Paper.__init__(self, "enough", table)
        self.table = self.parts[0]


class Short(Denial):
    """Two rows that none of some wires parts: the first one wants 1, the other one wants 0."""

    def __init__(self, one, other):
        Denial.__init__(self, "short", one, other)
        self.one = self.parts[0]
        self.other = self.parts[1]


def apart(task):
    """All pairs of rows of which the first one wants 1, the other one 0, ascending."""
    need_one_hole(task)
    zeros = rows_wanting(task, 0)
    return tuple([(one, other) for one in rows_wanting(task, 1) for other in zeros])


def enough(task, wires):
    """An Enough of a table of these wires in the order told, or a Short."""
    need_sure_wires(task, wires)
    told = numbers_told(task, wires)
    clash = first_clash(task, told)
    if clash is not None:
        return Short(clash[0], clash[1])
    ones = [told[row] for row in rows_wanting(task, 1)]
    return Enough([1 if number in ones else 0 for number in range(1 << len(wires))])


def tight_sights(task, wires):
    """All tight lots of these wires, ordered."""
    need_sure_wires(task, wires)
    names = _in_order(task, wires)
    parting = _parting(task, names)
    found, tight = [], []
    for many in range(len(names) + 1):
        for lot in combinations(names, many):
            bits = _bits_of(lot, names)
            # Shorter lots come first, so a lot with more than it needs has a tight one within.
            if all([bits & two for two in parting]) and not any([(bits & less) == less for less in tight]):
                found.append(lot)
                tight.append(bits)
    return tuple(found)


def needed(task, wires):
    """The lot of those of these wires that are in all tight lots, () if there is no tight lot."""
    need_sure_wires(task, wires)
    names = _in_order(task, wires)
    parting = _parting(task, names)
    if 0 in parting:
        return ()
    return tuple([name for name in names if _bits_of((name,), names) in parting])


def need_sure_wires(task, wires):
    """Raises what the functions here raise for a task and wires that the hole might see."""
    need_task(task, "task")
    _need_unlike_wires(task.net, wires)
    need_one_hole(task)
    if not all([task.net.is_sure(name) for name in wires]):
        raise Misfit("hole")
    if len(wires) > MOST_WIRES:
        raise TooMany("wires", MOST_WIRES)


def numbers_told(task, wires):
    """For each row the number of the setting that these sure wires have there."""
    return numbers_at_rows(task.net, bits_with_holes(task.net), wires)


def _need_unlike_wires(net, wires):
    if not isinstance(wires, (list, tuple)):
        raise NoWire(wires)
    for name in wires:
        need_wire(net, name)
    twice = first_twice(wires)
    if twice is not None:
        raise Twice(twice)


def _in_order(task, wires):
    return [name for name in task.net.wires if name in wires]


def _bits_of(lot, names):
    return told_in_twos([1 if name in lot else 0 for name in names])


def _parting(task, names):
    # For each two rows that are apart the lot of the names that part them, as bits; each lot once.
    told = numbers_told(task, names)
    return sorted(set([told[one] ^ told[other] for one, other in apart(task)]))
