"""Gates that can be put anew, against trying all tables, and the facts about them."""

import itertools
import random
import time

from holegates import mends as module
from holegates.check_single import shows_between
from holegates.errors import BadNet, Misfit, NoWire, TooMany, Twice
from holegates.mends import mend, mendable, mendable_by_all, two_mends
from holegates.nets import Net
from holegates.single import Between, Clash, between
from holegates.tasks import Task
from tests.support import (
    HUGE, NAMES_OF_INPUTS, EqualsAll, Told, bent_nets, drawn_wish, greatest_net, no_names, right_nets, settings,
    some_nets, tables, wrong_values,
)

NET = Net.read("a b : g 0001 a b / out 1011 g a")
TWIN = Net.read("a b : g 0001 a b / k 0111 a b / out 0001 g k")
HOLES = Net.read("a b : g 0001 a b / h ? a / out 1011 g h")
MANY = (mendable, mendable_by_all, two_mends)
CASES = [
    *[(net, net.wires[-1]) for net in some_nets(60, 151, most_gates=4, most_holes=0)],
    *right_nets(40, 152), *bent_nets(60, 153),
]


def own_tables(net, name, sources):
    """A dict for a gate: its table of these sources, for each table."""
    return [{name: (sources, table)} for table in tables(len(sources))]


def can_be(net, wish, name, sources):
    """Whether some table of these sources makes the wish 1 at all rows, by trying each one."""
    return any(all(drawn_wish(net, wish, put)) for put in own_tables(net, name, sources))


def gates_of(net):
    return [(name, sources) for name, sources, _ in net.gates]


def with_both(net):
    """The net with a gate that is 1 where its first and its last one are."""
    return Net(net.inputs, [*net.gates, ("both", (net.gates[0][0], net.gates[-1][0]), (0, 0, 0, 1))])


class AgainstTryingAll(Told):
    def assert_mended(self, net, wish, name, sources, paper):
        right = [put[name][1] for put in own_tables(net, name, sources) if all(drawn_wish(net, wish, put))]
        self.assertIs(type(paper), Between if right else Clash)
        if right:
            # Views that no row has are 0 in both tables.
            seen = {tuple(signs) for signs in zip(*[drawn_wish(net, source, {}) for source in sources])} or {()}
            for table in right:
                for setting, low, sign, high in zip(settings(len(sources)), paper.least, table, paper.greatest):
                    self.assertTrue(low <= sign <= high or setting not in seen)
            free = sum(low < high for low, high in zip(*paper.parts))
            self.assertEqual(len(right), 2 ** (free + 2 ** len(sources) - len(seen)))
        self.assertIs(shows_between(Task(net.struck(name, sources), wish), paper), True)

    def test_mend_with_own_sources(self):
        found = {"between": 0, "clash": 0}
        for net, wish in CASES:
            for name, sources in gates_of(net):
                if len(sources) > 3:
                    continue
                paper = mend(net, wish, name)
                found[paper.word] += 1
                self.assert_mended(net, wish, name, sources, paper)
                for told in (sources, list(sources), None):
                    self.assertEqual(mend(net, wish, name, told), paper)
                    self.assertEqual(mend(sources=told, name=name, wish=wish, net=net), paper)
        self.assertGreater(min(found.values()), 60)

    def test_mend_with_other_sources(self):
        chooser = random.Random(154)
        found = {"between": 0, "clash": 0}
        for net, wish in CASES:
            for name, _ in gates_of(net):
                ahead = net.wires[:net.wires.index(name)]
                sources = chooser.sample(ahead, chooser.randint(0, min(3, len(ahead))))
                paper = mend(net, wish, name, sources)
                found[paper.word] += 1
                self.assert_mended(net, wish, name, tuple(sources), paper)
        self.assertGreater(min(found.values()), 100)

    def test_mendable(self):
        lengths = set()
        for net, wish in CASES:
            if max([len(sources) for _, sources in gates_of(net)], default=0) > 3:
                continue
            expected = tuple(name for name, sources in gates_of(net) if can_be(net, wish, name, sources))
            self.assert_same(mendable(net, wish), expected)
            self.assert_same(mendable(wish=wish, net=net), expected)
            lengths.add(len(expected))
        self.assertGreater(len(lengths), 3)

    def test_mendable_by_all(self):
        lengths = set()
        for net, wish in CASES:
            expected = tuple(name for name, _ in gates_of(net) if can_be(net, wish, name, net.inputs))
            self.assert_same(mendable_by_all(net, wish), expected)
            self.assert_same(mendable_by_all(wish=wish, net=net), expected)
            lengths.add(len(expected))
        self.assertGreater(len(lengths), 3)

    def test_two_mends(self):
        found = 0
        cases = [case for case in CASES if len(case[0].inputs) < 3]
        cases += [(with_both(net), "both") for net, _ in cases if len(net.gates) > 1]
        for net, wish in [(TWIN, "out"), (NET, "out"), *cases]:
            alone = mendable_by_all(net, wish)
            names = [name for name, _ in gates_of(net) if name not in alone]
            expected = tuple(
                (one, other) for one, other in itertools.combinations(names, 2)
                if any(
                    all(drawn_wish(net, wish, {**first, **second}))
                    for first in own_tables(net, one, net.inputs) for second in own_tables(net, other, net.inputs)
                )
            )
            self.assert_same(two_mends(net, wish), expected)
            self.assert_same(two_mends(wish=wish, net=net), expected)
            found += len(expected)
        self.assertGreater(found, 10)


class Edges(Told):
    def test_wishes_that_are_inputs(self):
        for wish in ("a", "b"):
            self.assert_same([call(NET, wish) for call in MANY], [(), (), ()])
            self.assertIs(type(mend(NET, wish, "g")), Clash)

    def test_wishes_that_are_1_already(self):
        net = Net.read("a b : g 0001 a b / k 0110 a b / out 1111 g k")
        names = ("g", "k", "out")
        self.assert_same([call(net, "out") for call in MANY], [names, names, ()])
        self.assertEqual(mend(net, "out", "g"), Between([0] * 4, [1] * 4))
        self.assertEqual(mend(net, "out", "out"), Between([1, 1, 1, 0], [1, 1, 1, 0]))

    def test_no_gates(self):
        net = Net(["a"], [])
        self.assert_same([call(net, "a") for call in MANY], [(), (), ()])
        self.assert_raises(NoWire("a"), mend, net, "a", "a")

    def test_gates_without_sources(self):
        net = Net.read("a : g 0 / k 1 / out 0111 g a")
        self.assertEqual(mend(net, "out", "g"), Between([1], [1]))
        self.assertEqual(mend(net, "out", "g", ["a"]), Between([1, 0], [1, 1]))
        self.assertEqual(mend(net, "out", "k"), Clash(0, 0))
        self.assert_same((mendable(net, "out"), mendable_by_all(net, "out")), (("g", "out"),) * 2)
        self.assertEqual(mend(Net.read("a : g 0 / out 0110 g a"), "out", "g"), Clash(0, 1))

    def test_a_gate_that_nothing_hangs_on(self):
        net = Net.read("a : g 0 / k 10 a / out 11 a")
        self.assertEqual(mend(net, "out", "k"), Between([0, 0], [1, 1]))
        self.assertEqual(mend(net, "g", "k"), Clash(0, 0))
        self.assert_same([call(net, "g") for call in MANY], [("g",), ("g",), ()])

    def test_settings_that_no_row_brings(self):
        self.assertEqual(mend(NET, "out", "out"), Between((1, 1, 0, 1), (1, 1, 0, 1)))

    def test_sources_in_another_order_and_behind_no_gate(self):
        net = Net.read("a b : n 10 a / g 0110 a b / out 0110 g b")
        self.assertEqual(mend(net, "out", "g", ["b", "n"]), Between((1, 1, 0, 0), (1, 1, 0, 0)))
        self.assertEqual(mend(net, "out", "g", ["n", "b"]), Between((1, 0, 1, 0), (1, 0, 1, 0)))
        self.assertEqual(mend(net, "out", "g", ["n"]), Clash(0, 1))
        self.assertEqual(mend(net, "out", "g", []), Clash(0, 1))

    def test_just_twelve_gates_and_thirteen(self):
        twelve = " / ".join(f"g{at} 0001 a b" for at in range(11))
        net = Net.read(f"a b : {twelve} / out 0001 g0 g1")
        self.assert_same(two_mends(net, "out"), (("g0", "g1"),))
        more = Net.read(f"{net} / last 1")
        self.assert_raises(TooMany("gates", 12), two_mends, more, "out")
        self.assert_raises(TooMany("gates", 12), two_mends, more, "last")
        self.assert_same(mendable(more, "last"), tuple(gate for gate, _ in gates_of(more)))


class WrongArguments(Told):
    def test_what_is_no_net(self):
        for value in wrong_values() + [str(NET), Task(NET, "out")]:
            for call in MANY:
                self.assert_raises(BadNet("net"), call, value, "out")
                self.assert_raises(BadNet("net"), call, value, None)
            self.assert_raises(BadNet("net"), mend, value, None, None, 7)

    def test_what_is_no_wire(self):
        for value in no_names() + ["z", "g1", HUGE, -1, EqualsAll()]:
            for call in MANY:
                self.assert_raises(NoWire(value), call, NET, value)
                self.assert_raises(NoWire(value), call, HOLES, value)
            self.assert_raises(NoWire(value), mend, NET, value, "y", 7)

    def test_what_is_no_gate(self):
        for value in no_names() + ["z", "a", "b", HUGE, -1, EqualsAll()]:
            self.assert_raises(NoWire(value), mend, NET, "out", value)
            self.assert_raises(NoWire(value), mend, NET, "out", value, 7)
            self.assert_raises(NoWire(value), mend, HOLES, "out", value, ["z"])

    def test_what_is_no_list_of_sources(self):
        names = ["a", "b", "g", "a", "b", "g", "a"]
        for net in (NET, HOLES):
            for value in (True, False, 0, 7, "", "a", "ab", {"a": 1}, {"a"}, object(), NET, names, [1], ["a", None],
                          ["a", "B"], [["a"]], ("a", ("b",)), [""], ["z", 1], EqualsAll()):
                with self.subTest(value=value):
                    self.assert_raises(BadNet("sources"), mend, net, "out", "out", value)

    def test_sources_that_are_not_ahead_or_stand_twice(self):
        for net in (NET, HOLES):
            for name, value in (("g", "out"), ("g", "g"), ("out", "out"), ("out", "z"), ("g", "h")):
                self.assert_raises(NoWire(value), mend, net, "out", name, ["a", value])
                self.assert_raises(NoWire(value), mend, net, "out", name, ("a", "a", value))
            self.assert_raises(Twice("a"), mend, net, "out", "out", ["b", "a", "g", "a", "b"])
            self.assert_raises(Twice("b"), mend, net, "out", "g", ("b", "b"))

    def test_nets_with_holes(self):
        for call in MANY:
            self.assert_raises(Misfit("holes"), call, HOLES, "out")
            self.assert_raises(Misfit("holes"), call, HOLES, "a")
        for name in ("g", "h", "out"):
            self.assert_raises(Misfit("holes"), mend, HOLES, "out", name)
            self.assert_raises(Misfit("holes"), mend, HOLES, "out", name, ["a"])
        self.assert_raises(Misfit("holes"), mend, HOLES, "out", "out", ["h"])
        thirteen = Net.read("a : h ? / " + " / ".join(f"g{at} 01 a" for at in range(12)))
        self.assert_raises(Misfit("holes"), two_mends, thirteen, "a")

    def test_they_are_defined_in_this_file(self):
        for name in ("mend", "mendable", "mendable_by_all", "two_mends"):
            self.assertEqual(getattr(module, name).__module__, "holegates.mends")


class Facts(Told):
    def test_by_all_inputs_exactly_if_at_each_row_one_of_both_signs_will_do(self):
        for net, wish in CASES:
            for name, _ in gates_of(net):
                some = [drawn_wish(net, wish, {name: ((), (sign,))}) for sign in (0, 1)]
                will_do = all(map(max, *some))
                self.assertIs(bool(mend(net, wish, name, net.inputs)), will_do)
                self.assertIs(name in mendable_by_all(net, wish), will_do)

    def test_what_can_be_done_with_some_sources_can_be_done_with_more_and_with_all_inputs(self):
        chooser = random.Random(155)
        for net, wish in CASES:
            self.assertTrue(set(mendable(net, wish)) <= set(mendable_by_all(net, wish)))
            for name, _ in gates_of(net):
                ahead = net.wires[:net.wires.index(name)]
                wide = chooser.sample(ahead, chooser.randint(0, min(6, len(ahead))))
                less = wide[:chooser.randint(0, len(wide))]
                if mend(net, wish, name, less):
                    self.assertTrue(mend(net, wish, name, wide))
                    self.assertTrue(mend(net, wish, name, net.inputs))

    def test_a_row_that_is_0_whichever_sign_the_gate_has_bars_every_table(self):
        chooser = random.Random(156)
        many = 0
        for net, wish in CASES:
            for name, _ in gates_of(net):
                zero, one = [drawn_wish(net, wish, {name: ((), (sign,))}) for sign in (0, 1)]
                for row, signs in enumerate(zip(zero, one)):
                    if signs == (0, 0):
                        many += 1
                        ahead = net.wires[:net.wires.index(name)]
                        sources = chooser.sample(ahead, chooser.randint(0, min(6, len(ahead))))
                        task = Task(net.struck(name, sources), wish)
                        self.assertIs(type(mend(net, wish, name, sources)), Clash)
                        self.assertIs(shows_between(task, Clash(row, row)), True)
        self.assertGreater(many, 100)

    def test_a_gate_bent_at_one_sign_can_be_put_anew(self):
        for net, wish in bent_nets(80, 157):
            right = [net.put(name, other) for name, _, table in net.gates for other in one_sign_turned(table)]
            for other in right:
                if Task(other, wish).is_right(()):
                    changed = [one[0] for one, two in zip(net.gates, other.gates) if one != two]
                    self.assertIn(changed[0], mendable(net, wish))
                    table = dict((name, signs) for name, _, signs in other.gates)[changed[0]]
                    paper = mend(net, wish, changed[0])
                    task = Task(net.struck(changed[0]), wish)
                    self.assertTrue(task.is_right([table]))
                    self.assertEqual(paper, between(task))

    def test_a_pair_alone_is_no_pair(self):
        for net, wish in CASES[:80]:
            alone = mendable_by_all(net, wish)
            for one, other in two_mends(net, wish):
                self.assertNotIn(one, alone)
                self.assertNotIn(other, alone)
                self.assertLess(net.wires.index(one), net.wires.index(other))


def one_sign_turned(table):
    return [table[:at] + (1 - sign,) + table[at + 1:] for at, sign in enumerate(table)]


class NothingIsChanged(Told):
    def test_nets_and_sources_stay(self):
        for net, wish in CASES[:60]:
            before = (str(net), net.wires, net.holes)
            again = Net.read(str(net))
            for call in MANY:
                self.assert_same(call(again, wish), call(net, wish))
            for name, sources in gates_of(net):
                told = list(sources)
                self.assertEqual(mend(again, wish, name, told), mend(net, wish, name, told))
                self.assert_same(told, list(sources))
            self.assert_same((str(net), net.wires, net.holes), before)


class ShortTimes(Told):
    def test_the_greatest_nets(self):
        begin = time.process_time()
        net = greatest_net()
        for hole in net.holes:
            net = net.put(hole, [0, 1, 1, 0] * 16)
        for wish in net.wires[-2:]:
            mendable(net, wish)
            mendable_by_all(net, wish)
            mend(net, wish, net.wires[-3])
        inputs = " ".join(NAMES_OF_INPUTS)
        chooser = random.Random(158)
        gates = " / ".join(
            f"g{at} {''.join(str(chooser.randrange(2)) for _ in range(64))} {inputs}" for at in range(11)
        )
        twelve = Net.read(f"{inputs} : {gates} / out 0110 g1 g2")
        self.assertEqual(mendable(twelve, "out"), ("g1", "g2", "out"))
        self.assertEqual(two_mends(twelve, "g3"), ())
        both = Net.read(str(twelve).replace("out 0110", "out 0001"))
        self.assertEqual(two_mends(both, "out"), (("g1", "g2"),))
        self.assertLess(time.process_time() - begin, 8)
