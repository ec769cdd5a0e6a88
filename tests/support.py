"""What several tests use: wrong values of all kinds, errors compared by their fields, nets by the drawing."""

import itertools
import random
import unittest

from holegates.nets import Net

HUGE = 10 ** 99
NAMES_OF_INPUTS = ("a", "b", "c", "d", "e", "f")


class EqualsAll:
    """What claims to be equal to everything, and is no number, no name and no value of the package."""

    def __eq__(self, other):
        return True


def no_integers():
    """Values that are no integers; new ones for each call."""
    return [
        True, False, None, "", "0", "1", "a", b"1", 0.0, 1.0, [], [0], (), (1,), {0: 1}, {1}, [[0, 1]], object(), int,
        EqualsAll(),
    ]


def beyond(least, most):
    """Integers outside of the bounds."""
    return [least - 1, most + 1, -HUGE, HUGE, least - 10 ** 30]


def wrong_numbers(least, most):
    """Values that are no integers from least to most."""
    return no_integers() + beyond(least, most)


def no_names():
    """Values that are no names, and so no wires."""
    return [
        True, None, 0, 1, "", "A", "7", "a b", "a\n", "a" * 13, b"a", ["a"], ("a",), [["a"]], {"a": 1}, object(), Net,
        EqualsAll(),
    ]


def wrong_values():
    """Values that are nothing of the package."""
    return [True, False, None, 0, 1, -1, HUGE, "", "a", "a :", b"a", 1.5, [], (), [[]], {}, object(), Net, str]


def wrong_tables():
    """Values that are no tables."""
    return [
        True, False, None, 0, 1, HUGE, "", "0", "01", b"01", [], (), [0, 1, 1], (0,) * 5, (1,) * 257, [0] * 512,
        [True], [0, True], (False, 1), [0, 2], [-1, 0], [0, HUGE], [None, 1], ["0", "1"], [0, 1.0], [[0, 1]],
        [[0], [1]], ([0, 1], [1, 0]), {0: 0, 1: 1}, {0, 1}, range(2), object(), tuple, EqualsAll(), [0, EqualsAll()],
    ]


def wrong_signs(many):
    """Values that are no lists of so many signs."""
    right = [0, 1] * many
    others = [True, None, 0, 1, "", "01", b"01", {0: 1}, {0, 1}, range(many), object(), list]
    one_wrong = [right[:many - 1] + [item] for item in [2, -1, HUGE] + no_integers() if many]
    lengths = [right[:length] for length in range(many)] + [[0] * (many + 1), (1,) * (many + 9)]
    return others + one_wrong + lengths


class Told(unittest.TestCase):
    """Tests that compare errors and answers strictly."""

    def assert_raises(self, expected, call, *arguments, **named):
        """The call raises an error of just this class, its fields being the very values of the expected one."""
        with self.assertRaises(type(expected)) as caught:
            call(*arguments, **named)
        self.assertIs(type(caught.exception), type(expected))
        found = vars(caught.exception)
        self.assertEqual(list(found), list(vars(expected)))
        for field, value in vars(expected).items():
            self.assert_same_value(found[field], value)

    def assert_same_value(self, found, value):
        # Lists stay the lists that were passed; for small tuples, strings and numbers equality and kind will do.
        if found is not value:
            self.assertEqual(repr(found), repr(value))
            self.assertIn(type(value), (int, str, tuple))

    def assert_same(self, found, expected):
        """Equal, with tuples for tuples and 1 for 1, not True."""
        self.assertEqual(repr(found), repr(expected))


def settings(places):
    """All settings in the order of their numbers."""
    return list(itertools.product((0, 1), repeat=places))


def tables(places):
    """All tables of so many places."""
    return list(itertools.product((0, 1), repeat=2 ** places))


def some_tables(places, many, seed):
    """Some tables of so many places, always the same."""
    chooser = random.Random(seed)
    return [tuple(chooser.randrange(2) for _ in range(2 ** places)) for _ in range(many)]


def in_twos(signs):
    """The number of a setting, read as Python reads a number in twos."""
    return int("0" + "".join(map(str, signs)), 2)


def drawn_sign(net, setting, choice, name):
    """The sign of a wire as the drawing tells it, followed back from the wire."""
    if name in net.inputs:
        return setting[net.inputs.index(name)]
    sources, table = {gate: (ahead, signs) for gate, ahead, signs in net.gates}[name]
    if table is None:
        return choice[net.holes.index(name)]
    return table[in_twos([drawn_sign(net, setting, choice, source) for source in sources])]


def drawn_behind(net, name):
    """The wires behind this one, as the drawing tells them."""
    direct = [gate for gate, sources, _ in net.gates if name in sources]
    return set(direct).union(*[drawn_behind(net, gate) for gate in direct])


def drawn_sure(net):
    """The sure wires, as the drawing tells them."""
    unsure = set(net.holes).union(*[drawn_behind(net, hole) for hole in net.holes])
    return [name for name in net.wires if name not in unsure]


def some_net(chooser, inputs, gates, holes):
    """A net of so many inputs and gates, with so many holes or fewer, if they find no place."""
    names = list(NAMES_OF_INPUTS[:inputs])
    made, sure, left = [], list(names), holes
    for at in range(gates):
        name = f"g{at}"
        if left and chooser.randrange(gates - at) < left + 1:
            sources = chooser.sample(sure, chooser.randrange(min(len(sure), 3) + 1))
            made.append((name, tuple(sources), None))
            left -= 1
        else:
            sources = chooser.sample(names, chooser.randrange(min(len(names), 3) + 1))
            made.append((name, tuple(sources), tuple(chooser.randrange(2) for _ in range(2 ** len(sources)))))
            if set(sources) <= set(sure):
                sure.append(name)
        names.append(name)
    return Net(NAMES_OF_INPUTS[:inputs], made)


def some_nets(many, seed, most_inputs=3, most_gates=6, most_holes=3):
    """Many small nets, always the same."""
    chooser = random.Random(seed)
    found = []
    for _ in range(many):
        inputs, gates = chooser.randint(1, most_inputs), chooser.randint(0, most_gates)
        found.append(some_net(chooser, inputs, gates, chooser.randint(0, most_holes)))
    return found


def some_filling(chooser, net):
    """A table for each hole of the net."""
    return tuple(
        tuple(chooser.randrange(2) for _ in range(2 ** len(net.sources(hole)))) for hole in net.holes
    )


def greatest_net():
    """Six inputs, 24 gates of six sources, four of them holes: as much as a net can have."""
    chooser = random.Random(99)
    names = list(NAMES_OF_INPUTS)
    gates = []
    for at in range(24):
        sources = tuple(names[-6:]) if at < 8 or at > 11 else tuple(names[at - 7:at - 1])
        table = None if 8 <= at <= 11 else tuple(chooser.randrange(2) for _ in range(64))
        gates.append((f"gate{at}", sources, table))
        names.append(f"gate{at}")
    return Net(NAMES_OF_INPUTS, gates)
