"""What several tests use: wrong values of all kinds, errors compared by their fields, nets and tasks by the drawing."""

import itertools
import random
import unittest

from holegates.freerows import Idle, Matters, Wrong
from holegates.ladders import Plan, Trap
from holegates.nets import Net
from holegates.papers import Denial, Paper
from holegates.sights import Enough, Short
from holegates.single import Between, Clash
from holegates.tasks import Task
from holegates.unlike import Refused, Settled
from holegates.wires import Alike, Unlike

HUGE = 10 ** 99
NAMES_OF_INPUTS = ("a", "b", "c", "d", "e", "f")


class EqualsAll:
    """What claims to be equal to everything, and is no number, no name and no value of the package."""

    def __eq__(self, other):
        return True


def no_integers():
    """Values that are no integers; new ones for each call."""
    return [
        True, False, None, "", "0", "1", "a", b"1", 0.0, 1.0, [], [0], (), (1,), {0: 1}, {1}, [[0, 1]], object(), int,
        EqualsAll(),
    ]


def beyond(least, most):
    """Integers outside of the bounds."""
    return [least - 1, most + 1, -HUGE, HUGE, least - 10 ** 30]


def wrong_numbers(least, most):
    """Values that are no integers from least to most."""
    return no_integers() + beyond(least, most)


def no_names():
    """Values that are no names, and so no wires."""
    return [
        True, None, 0, 1, "", "A", "7", "a b", "a\n", "a" * 13, b"a", ["a"], ("a",), [["a"]], {"a": 1}, object(), Net,
        EqualsAll(),
    ]


def wrong_values():
    """Values that are nothing of the package."""
    return [True, False, None, 0, 1, -1, HUGE, "", "a", "a :", b"a", 1.5, [], (), [[]], {}, object(), Net, str]


def wrong_tables():
    """Values that are no tables."""
    return [
        True, False, None, 0, 1, HUGE, "", "0", "01", b"01", [], (), [0, 1, 1], (0,) * 5, (1,) * 257, [0] * 512,
        [True], [0, True], (False, 1), [0, 2], [-1, 0], [0, HUGE], [None, 1], ["0", "1"], [0, 1.0], [[0, 1]],
        [[0], [1]], ([0, 1], [1, 0]), {0: 0, 1: 1}, {0, 1}, range(2), object(), tuple, EqualsAll(), [0, EqualsAll()],
    ]


def wrong_signs(many):
    """Values that are no lists of so many signs."""
    right = [0, 1] * many
    others = [True, None, 0, 1, "", "01", b"01", {0: 1}, {0, 1}, range(many), object(), list]
    one_wrong = [right[:many - 1] + [item] for item in [2, -1, HUGE] + no_integers() if many]
    lengths = [right[:length] for length in range(many)] + [[0] * (many + 1), (1,) * (many + 9)]
    return others + one_wrong + lengths


class Told(unittest.TestCase):
    """Tests that compare errors and answers strictly."""

    def assert_raises(self, expected, call, *arguments, **named):
        """The call raises an error of just this class, its fields being the very values of the expected one."""
        with self.assertRaises(type(expected)) as caught:
            call(*arguments, **named)
        self.assertIs(type(caught.exception), type(expected))
        found = vars(caught.exception)
        self.assertEqual(list(found), list(vars(expected)))
        for field, value in vars(expected).items():
            self.assert_same_value(found[field], value)

    def assert_same_value(self, found, value):
        # Lists stay the lists that were passed; for small tuples, strings and numbers equality and kind will do.
        if found is not value:
            self.assertEqual(repr(found), repr(value))
            self.assertIn(type(value), (int, str, tuple))

    def assert_same(self, found, expected):
        """Equal, with tuples for tuples and 1 for 1, not True."""
        self.assertEqual(repr(found), repr(expected))


def settings(places):
    """All settings in the order of their numbers."""
    return list(itertools.product((0, 1), repeat=places))


def tables(places):
    """All tables of so many places."""
    return list(itertools.product((0, 1), repeat=2 ** places))


def some_tables(places, many, seed):
    """Some tables of so many places, always the same."""
    chooser = random.Random(seed)
    return [tuple(chooser.randrange(2) for _ in range(2 ** places)) for _ in range(many)]


def in_twos(signs):
    """The number of a setting, read as Python reads a number in twos."""
    return int("0" + "".join(map(str, signs)), 2)


def drawn_sign(net, setting, choice, name):
    """The sign of a wire as the drawing tells it, followed back from the wire."""
    if name in net.inputs:
        return setting[net.inputs.index(name)]
    sources, table = {gate: (ahead, signs) for gate, ahead, signs in net.gates}[name]
    if table is None:
        return choice[net.holes.index(name)]
    return table[in_twos([drawn_sign(net, setting, choice, source) for source in sources])]


def drawn_behind(net, name):
    """The wires behind this one, as the drawing tells them."""
    direct = [gate for gate, sources, _ in net.gates if name in sources]
    return set(direct).union(*[drawn_behind(net, gate) for gate in direct])


def drawn_sure(net):
    """The sure wires, as the drawing tells them."""
    unsure = set(net.holes).union(*[drawn_behind(net, hole) for hole in net.holes])
    return [name for name in net.wires if name not in unsure]


def some_net(chooser, inputs, gates, holes):
    """A net of so many inputs and gates, with so many holes or fewer, if they find no place."""
    names = list(NAMES_OF_INPUTS[:inputs])
    made, sure, left = [], list(names), holes
    for at in range(gates):
        name = f"g{at}"
        if left and chooser.randrange(gates - at) < left + 1:
            sources = chooser.sample(sure, chooser.randrange(min(len(sure), 3) + 1))
            made.append((name, tuple(sources), None))
            left -= 1
        else:
            sources = chooser.sample(names, chooser.randrange(min(len(names), 3) + 1))
            made.append((name, tuple(sources), tuple(chooser.randrange(2) for _ in range(2 ** len(sources)))))
            if set(sources) <= set(sure):
                sure.append(name)
        names.append(name)
    return Net(NAMES_OF_INPUTS[:inputs], made)


def some_nets(many, seed, most_inputs=3, most_gates=6, most_holes=3):
    """Many small nets, always the same."""
    chooser = random.Random(seed)
    found = []
    for _ in range(many):
        inputs, gates = chooser.randint(1, most_inputs), chooser.randint(0, most_gates)
        found.append(some_net(chooser, inputs, gates, chooser.randint(0, most_holes)))
    return found


def drawn_wish(net, wish, put):
    """The signs of a wire at all rows, as the drawing tells them; put has other sources and tables for some gates."""
    found = []
    for setting in settings(len(net.inputs)):
        signs = dict(zip(net.inputs, setting))
        for name, sources, table in net.gates:
            sources, table = put.get(name, (sources, table))
            signs[name] = table[in_twos([signs[source] for source in sources])]
        found.append(signs[wish])
    return found


def right_nets(many, seed):
    """Nets without holes, with a wire that is 1 at all rows: it tells that a gate is what it was planned to be."""
    chooser = random.Random(seed)
    found = []
    for net in some_nets(many, seed, most_gates=4, most_holes=0):
        planned = chooser.choice(net.wires)
        gates = [*net.gates, ("plan", net.inputs, drawn_wish(net, planned, {}))]
        gates.append(("same", (planned, "plan"), (1, 0, 0, 1)))
        if chooser.randrange(2):
            other = chooser.choice(net.wires)
            gates.append(("eased", ("same", other), chooser.choice(((0, 0, 1, 1), (0, 1, 1, 1)))))
        found.append((Net(net.inputs, gates), gates[-1][0]))
    return found


def bent_nets(many, seed):
    """Likewise, but with one sign of one gate turned; some are right still."""
    chooser = random.Random(seed)
    found = []
    for net, wish in right_nets(many, seed):
        name, _, table = chooser.choice(net.gates)
        at = chooser.randrange(len(table))
        found.append((net.put(name, table[:at] + (1 - table[at],) + table[at + 1:]), wish))
    return found


def some_filling(chooser, net):
    """A table for each hole of the net."""
    return tuple(
        tuple(chooser.randrange(2) for _ in range(2 ** len(net.sources(hole)))) for hole in net.holes
    )


def greatest_net():
    """Six inputs, 24 gates of six sources, four of them holes: as much as a net can have."""
    chooser = random.Random(99)
    names = list(NAMES_OF_INPUTS)
    gates = []
    for at in range(24):
        sources = tuple(names[-6:]) if at < 8 or at > 11 else tuple(names[at - 7:at - 1])
        table = None if 8 <= at <= 11 else tuple(chooser.randrange(2) for _ in range(64))
        gates.append((f"gate{at}", sources, table))
        names.append(f"gate{at}")
    return Net(NAMES_OF_INPUTS, gates)


def some_tasks(many, seed, **bounds):
    """Small tasks, some with a wish that is an input, a hole or a sure gate."""
    chooser = random.Random(seed)
    return [Task(net, chooser.choice(net.wires[-3:])) for net in some_nets(many, seed, **bounds)]


def told_task(inputs, holes, is_right):
    """The task of these holes, pairs of a name and its sources, with the choices right that are told to be.

    is_right takes a setting of the inputs and a choice; there are six inputs and holes together at most.
    """
    inputs = NAMES_OF_INPUTS[:inputs]
    names = [name for name, _ in holes]
    signs = [int(is_right(told[:len(inputs)], told[len(inputs):])) for told in settings(len(inputs) + len(names))]
    gates = [(f"n{at}", (name,), (1, 0)) for at, name in enumerate(inputs)]
    gates += [(name, sources, None) for name, sources in holes]
    return Task(Net(inputs, [*gates, ("out", (*inputs, *names), signs)]), "out")


def nested_task(chooser, inputs, holes):
    """A task with nested sights, the holes and the sources of each in any order, and any choices right."""
    wires = [*NAMES_OF_INPUTS[:inputs], *[f"n{at}" for at in range(inputs)]]
    sights = [[]]
    for _ in range(holes):
        more = [wire for wire in wires if wire not in sights[-1]]
        sights.append(sights[-1] + chooser.sample(more, min(len(more), chooser.choice((0, 0, 1, 1, 2)))))
    order = chooser.sample(range(1, holes + 1), holes)
    drawn = [(f"h{at}", chooser.sample(sights[at], len(sights[at]))) for at in order]
    often = chooser.choice((0.5, 0.7, 0.85, 0.95))
    return told_task(inputs, drawn, lambda setting, choice: chooser.random() < often)


def nested_tasks(many, seed, most_unknowns=9):
    """Many small tasks with nested sights, always the same."""
    chooser = random.Random(seed)
    found = []
    while len(found) < many:
        inputs = chooser.randint(1, 3)
        task = nested_task(chooser, inputs, chooser.randint(1, min(4, 6 - inputs)))
        if len(Drawn(task).unknowns) <= most_unknowns:
            found.append(task)
    return found


def unlike_task(chooser, inputs, holes):
    """A task with any sights, and any choices right."""
    wires = [*NAMES_OF_INPUTS[:inputs], *[f"n{at}" for at in range(inputs)]]
    drawn = [
        (f"h{at}", chooser.sample(wires, min(len(wires), chooser.choice((0, 1, 1, 2, 2, 3))))) for at in range(holes)
    ]
    often = chooser.choice((0.5, 0.6, 0.7, 0.85, 0.95))
    return told_task(inputs, drawn, lambda setting, choice: chooser.random() < often)


def unlike_tasks(many, seed, most_unknowns=8):
    """Many small tasks with any sights, always the same; some have a wish that says little."""
    chooser = random.Random(seed)
    found = [task for task in some_tasks(many, seed) if task.holes and len(Drawn(task).unknowns) <= most_unknowns]
    found = found[:many // 4]
    while len(found) < many:
        inputs = chooser.randint(1, 4)
        task = unlike_task(chooser, inputs, chooser.randint(1, min(4, 6 - inputs)))
        if len(Drawn(task).unknowns) <= most_unknowns:
            found.append(task)
    return found


def drawn_view(task, hole, row):
    """What the hole sees at the row, as the drawing tells it."""
    setting = settings(len(task.net.inputs))[row]
    return in_twos([drawn_sign(task.net, setting, (0,) * len(task.holes), name) for name in task.sights[hole]])


def drawn_right(task, choice, row):
    """Whether the choice is right at the row, as the drawing tells it."""
    return drawn_sign(task.net, settings(len(task.net.inputs))[row], choice, task.wish) == 1


class Drawn:
    """A task as the drawing tells it, gone through once: what the answers of the package are compared with."""

    def __init__(self, task):
        self.many = 2 ** len(task.net.inputs)
        self.sights = [sources for _, sources, table in task.net.gates if table is None]
        self.holes = range(len(self.sights))
        self.choices = settings(len(self.sights))
        self.views = [tuple(drawn_view(task, hole, row) for hole in self.holes) for row in range(self.many)]
        self.right = [
            [choice for choice in self.choices if drawn_right(task, choice, row)] for row in range(self.many)
        ]
        self.unknowns = sorted({(hole, views[hole]) for views in self.views for hole in self.holes})

    def unknown(self, hole, row):
        return (hole, self.views[row][hole])

    def asked(self, row):
        """The holes that the row asks."""
        right = self.right[row]
        return [hole for hole in self.holes for choice in right if turned(choice, hole) not in right]

    def asked_unknowns(self):
        """The unknowns that some row asks."""
        return sorted({self.unknown(hole, row) for row in range(self.many) for hole in self.asked(row)})

    def filling(self, told):
        """The plain filling with the signs that are told of some unknowns."""
        return tuple(
            tuple(told.get((hole, view), 0) for view in range(2 ** len(self.sights[hole]))) for hole in self.holes
        )

    def plain_fillings(self):
        for signs in itertools.product((0, 1), repeat=len(self.unknowns)):
            yield self.filling(dict(zip(self.unknowns, signs)))

    def choice(self, filling, row):
        return tuple(filling[hole][self.views[row][hole]] for hole in self.holes)

    def is_right(self, filling):
        return all(self.choice(filling, row) in self.right[row] for row in range(self.many))

    def right_fillings(self):
        """All right plain fillings, by trying each one."""
        return [filling for filling in self.plain_fillings() if self.is_right(filling)]


def turned(choice, hole):
    """The choice with the sign of this hole alone turned."""
    return choice[:hole] + (1 - choice[hole],) + choice[hole + 1:]


def one_hole_tasks(many, seed):
    """Many small tasks with one hole, always the same: any sources, any rows that want 1, 0, nothing or both."""
    chooser = random.Random(seed)
    found = [task for task in some_tasks(3 * many, seed, most_holes=1) if len(task.holes) == 1][:many // 3]
    while len(found) < many:
        inputs = chooser.randint(1, 3)
        wires = [*NAMES_OF_INPUTS[:inputs], *[f"n{at}" for at in range(inputs)]]
        often = chooser.choice((0.6, 0.8, 0.9))
        sources = chooser.sample(wires, chooser.randint(0, min(3, len(wires))))
        found.append(told_task(inputs, [("h", sources)], lambda setting, choice: chooser.random() < often))
    return found


def bent_signs(signs):
    """Lists near to this one: signs turned, left out, too many, and what is no sign in the place of one."""
    found = [signs[:at] + (1 - sign,) + signs[at + 1:] for at, sign in enumerate(signs)]
    found += [signs[:at] + (other,) + signs[at + 1:] for at, sign in enumerate(signs[:4])
              for other in (bool(sign), 2, -1, None, str(sign), [sign], float(sign), EqualsAll())]
    return found + [signs[:-1], signs + (0,), signs + (1,), signs + signs, signs[:len(signs) // 2]] * bool(signs)


def strange_values():
    """Values that are no papers of the document's classes, some hard to compare."""
    return wrong_values() + [
        EqualsAll(), RaisesAlways(), Paper("between", (0,), (1,)), Denial("clash", 0, 0), Paper("plan", ((0, 0),)),
        Denial("trap", 0), Paper("sound"), Paper("faithful"), Denial("strays", 0, (0,)), Denial("bends", 0, (0,)),
        Paper("idle"), Denial("matters", 0, (0,)), Wrong(0), Idle, Matters, Wrong,
        Paper("settled", ((0, 0),)), Denial("refused", 0), Paper("enough", (0,)), Denial("short", 0, 0),
        Alike(), Unlike(0), Between, Clash, Plan, Trap, Settled, Refused, Enough, Short, "between", "sound",
        ("clash", 0, 0), ("refused", 0), {"word": "sound"},
    ]


class RaisesAlways:
    """What raises an error of its own whatever it is asked."""

    def __eq__(self, other):
        raise ArithmeticError

    def __bool__(self):
        raise ArithmeticError

    def __len__(self):
        raise ArithmeticError

    def __iter__(self):
        raise ArithmeticError

    def __getitem__(self, at):
        raise ArithmeticError

    def __getattr__(self, name):
        raise ArithmeticError


def nested_deep(value, depth):
    for at in range(depth):
        value = [value] if at % 2 else (value,)
    return value


def drawn_ladder(task):
    """The holes along the ladder, None if the sights are not nested."""
    sights = [set(sources) for _, sources, table in task.net.gates if table is None]
    order = sorted(range(len(sights)), key=lambda hole: (len(sights[hole]), hole))
    nested = all(sights[one] <= sights[other] for one, other in zip(order, order[1:]))
    return order if nested else None


def is_drawn_trap(drawn, order, tree, named=(), signs=()):
    """Whether the tree is a trap, read as point 8 tells it; lists may stand for tuples."""
    if len(signs) == len(order):
        choice = tuple(signs[order.index(hole)] for hole in drawn.holes)
        return (
            type(tree) is int and 0 <= tree < drawn.many and choice not in drawn.right[tree]
            and all(drawn.views[tree][hole] == view for hole, view in named)
        )
    if not isinstance(tree, (list, tuple)) or len(tree) != 3 or type(tree[0]) is not int:
        return False
    longer = (*named, (order[len(signs)], tree[0]))
    if not any(all(views[hole] == view for hole, view in longer) for views in drawn.views):
        return False
    return all(is_drawn_trap(drawn, order, tree[1 + sign], longer, (*signs, sign)) for sign in (0, 1))


def bars_way(drawn, row, way):
    """Whether the row bars the way, a dict of signs by unknowns."""
    return all(
        any(way.get(drawn.unknown(hole, row), choice[hole]) != choice[hole] for hole in drawn.holes)
        for choice in drawn.right[row]
    )


def is_refusing(drawn, tree, way=()):
    """Whether the tree refuses the task, read as point 10 tells it; lists may stand for tuples."""
    way = dict(way)
    if type(tree) is int:
        return 0 <= tree < drawn.many and bars_way(drawn, tree, way)
    if not isinstance(tree, (list, tuple)) or len(tree) != 4 or not all(type(part) is int for part in tree[:2]):
        return False
    unknown = tuple(tree[:2])
    if unknown not in drawn.unknowns or unknown in way:
        return False
    return all(is_refusing(drawn, tree[2 + sign], {**way, unknown: sign}) for sign in (0, 1))


def ends_of(tree):
    """What stands at the ends of a tree of triples."""
    return ends_of(tree[1]) + ends_of(tree[2]) if isinstance(tree, (list, tuple)) else [tree]


class DrawnForms:
    """The forms of a task as point 9 tells them."""

    def __init__(self, task):
        self.drawn = Drawn(task)
        self.order = drawn_ladder(task)
        self.up_to = [self.order[:self.order.index(hole) + 1] for hole in self.drawn.holes]
        self.places = [len(self.drawn.sights[hole]) + len(self.up_to[hole]) for hole in self.drawn.holes]

    def place(self, hole, view, choice):
        """The number of the setting that tells this view, and behind it what the choice has along the ladder."""
        seen = settings(len(self.drawn.sights[hole]))[view]
        return in_twos((*seen, *[choice[ahead] for ahead in self.up_to[hole]]))

    def choice_of(self, form, row, choice):
        """The choice that comes at the row."""
        return tuple(form[hole][self.place(hole, self.drawn.views[row][hole], choice)] for hole in self.drawn.holes)

    def filling_of(self, form, free):
        """The plain filling that comes."""
        told = {}
        for row in range(self.drawn.many):
            comes = self.choice_of(form, row, self.drawn.choice(free, row))
            told.update({self.drawn.unknown(hole, row): comes[hole] for hole in self.drawn.holes})
        return self.drawn.filling(told)

    def had_places(self, hole):
        """The numbers of the settings of the hole's table that begin with a view of some row."""
        many = len(self.up_to[hole])
        return [view << many | more for at, view in self.drawn.unknowns if at == hole for more in range(2 ** many)]

    def own(self):
        """The form of which everything comes of itself."""
        return tuple(tuple(at % 2 for at in range(2 ** places)) for places in self.places)

    def constant(self, filling):
        """The form of which this filling comes, whatever is put in."""
        return tuple(
            tuple(table[at >> len(ahead)] for at in range(2 ** places))
            for table, ahead, places in zip(filling, self.up_to, self.places)
        )

    def any_form(self, chooser):
        return tuple(tuple(chooser.randrange(2) for _ in range(2 ** places)) for places in self.places)

    def some_forms(self, chooser, right):
        """Forms of many kinds, for these right fillings."""
        found = [self.own(), self.any_form(chooser), self.constant(next(self.drawn.plain_fillings()))]
        found += [self.constant(filling) for filling in right[:1] + right[-1:]]
        bent = [list(table) for table in self.own()]
        hole = chooser.randrange(len(bent))
        at = chooser.choice(self.had_places(hole))
        bent[hole][at] = 1 - bent[hole][at]
        return [*found, bent]
