"""Runs, columns, and wires of two nets compared; the facts about nets."""

import random
import time

from holegates import wires as module
from holegates.errors import BadNet, BadNumber, Misfit, NoRow, NoWire
from holegates.nets import Net
from holegates.papers import Denial, Paper
from holegates.tables import sign_at
from holegates.wires import Alike, Unlike, column, run, same_wire
from tests.support import (
    NAMES_OF_INPUTS, Told, drawn_sign, drawn_sure, greatest_net, no_names, settings, some_filling, some_nets, tables,
    wrong_numbers, wrong_signs, wrong_values,
)

NETS = some_nets(120, seed=5)
HALF = Net.read("a b : h ? a b / n 10 a / out 0110 h n")
WHOLE = HALF.put("h", (0, 0, 0, 1))


def rows_of(net):
    return range(2 ** len(net.inputs))


def choices_of(net):
    return settings(len(net.holes))


def runs_of(net):
    """The signs of all wires, by row, by choice and by name."""
    return {
        (row, choice): dict(zip(net.wires, run(net, row, choice))) for row in rows_of(net) for choice in choices_of(net)
    }


class Defined(Told):
    def test_in_this_file(self):
        for name in ("run", "column", "Alike", "Unlike", "same_wire"):
            self.assertEqual(getattr(module, name).__module__, "holegates.wires")


class Running(Told):
    def test_as_the_drawing_tells(self):
        for net in NETS:
            for row, setting in enumerate(settings(len(net.inputs))):
                for choice in choices_of(net):
                    expected = tuple(drawn_sign(net, setting, choice, name) for name in net.wires)
                    self.assert_same(run(net, row, choice), expected)
                    self.assert_same(run(choice=list(choice), row=row, net=net), expected)

    def test_edges(self):
        self.assert_same(run(Net(["a"], []), 1, []), (1,))
        self.assert_same(run(Net(NAMES_OF_INPUTS, []), 0b101100, ()), (1, 0, 1, 1, 0, 0))
        self.assert_same(run(Net.read("a : k 1 / h ? / m ?"), 0, [0, 1]), (0, 1, 0, 1))
        self.assert_same(run(Net.read("a b : x 0010 b a"), 1, []), (0, 1, 1))

    def test_a_gate_of_six_sources(self):
        for row, setting in enumerate(settings(6)):
            table = [0] * 64
            table[row] = 1
            net = Net(NAMES_OF_INPUTS, [("x", NAMES_OF_INPUTS, table)])
            self.assertEqual([run(net, other, ())[6] for other in range(64)], table)
            self.assertEqual(run(net, row, ()), setting + (1,))

    def test_four_holes(self):
        net = Net.read("a : h ? / k ? a / m ? / n ?")
        for choice in settings(4):
            self.assert_same(run(net, 1, choice), (1, *choice))

    def test_wrong_arguments(self):
        for value in wrong_values() + [str(HALF), HALF.gates]:
            with self.subTest(value=value):
                self.assert_raises(BadNet("net"), run, value, 0, [0])
                self.assert_raises(BadNet("net"), run, value, None, None)
        for value in wrong_numbers(0, 3):
            with self.subTest(value=value):
                self.assert_raises(NoRow(value), run, HALF, value, [0])
                self.assert_raises(NoRow(value), run, HALF, value, None)
        for value in wrong_signs(1):
            with self.subTest(value=value):
                self.assert_raises(BadNumber("choice"), run, HALF, 3, value)
        self.assert_raises(BadNumber("choice"), run, WHOLE, 0, [0])
        self.assert_raises(BadNumber("choice"), run, WHOLE, 0, None)

    def test_nothing_is_changed(self):
        choice = [1]
        text = str(HALF)
        run(HALF, 2, choice)
        self.assertRaises(ValueError, run, HALF, 4, choice)
        self.assert_same((choice, str(HALF)), ([1], text))


class Columns(Told):
    def test_sure_wires(self):
        for net in NETS:
            sure = drawn_sure(net)
            for name in net.wires:
                if name in sure:
                    expected = tuple(
                        drawn_sign(net, setting, (0,) * len(net.holes), name) for setting in settings(len(net.inputs))
                    )
                    self.assert_same(column(net, name), expected)
                    self.assert_same(column(name=name, net=net), expected)
                else:
                    self.assert_raises(Misfit("hole"), column, net, name)

    def test_edges(self):
        self.assert_same(column(Net(["a"], []), "a"), (0, 1))
        self.assert_same(column(Net.read("a b : k 1"), "k"), (1, 1, 1, 1))
        self.assertEqual(column(Net(NAMES_OF_INPUTS, []), "f"), (0, 1) * 32)

    def test_wrong_arguments(self):
        for value in wrong_values():
            self.assert_raises(BadNet("net"), column, value, "a")
            self.assert_raises(BadNet("net"), column, value, None)
        for value in no_names() + ["z", "hh"]:
            with self.subTest(value=value):
                self.assert_raises(NoWire(value), column, HALF, value)
        self.assert_raises(Misfit("hole"), column, HALF, "h")
        self.assert_raises(Misfit("hole"), column, HALF, "out")


class PapersOfTwoWires(Told):
    def test_alike(self):
        paper = Alike()
        self.assertEqual((paper.word, paper.parts), ("alike", ()))
        self.assertIs(bool(paper), True)
        self.assertIsInstance(paper, Paper)
        self.assertNotIsInstance(paper, Denial)
        self.assertIs(paper == Alike(), True)

    def test_unlike(self):
        for paper in (Unlike([1, [2]]), Unlike(row=[1, [2]])):
            self.assert_same((paper.word, paper.parts, paper.row), ("unlike", ((1, (2,)),), (1, (2,))))
            self.assertIs(bool(paper), False)
            self.assertIsInstance(paper, Denial)
        for value in wrong_values():
            self.assert_same(Unlike(value).row, Unlike(value).parts[0])
        self.assertIs(Unlike(1) == Unlike(row=1), True)
        self.assertIs(Unlike(1) == Unlike(2), False)
        self.assertIs(Unlike(1) == Alike(), False)
        self.assertIs(Alike() == Paper("alike"), False)
        self.assertIs(Unlike(1) == Denial("unlike", 1), False)


class Comparing(Told):
    def test_each_wire_of_both(self):
        chooser = random.Random(8)
        for net in NETS:
            one, other = net, net
            for hole, first, second in zip(net.holes, some_filling(chooser, net), some_filling(chooser, net)):
                one, other = one.put(hole, first), other.put(hole, second)
            for name in net.wires:
                wrong = [
                    row for row, setting in enumerate(settings(len(net.inputs)))
                    if drawn_sign(one, setting, (), name) != drawn_sign(other, setting, (), name)
                ]
                expected = Unlike(wrong[0]) if wrong else Alike()
                self.assertEqual(same_wire(one, other, name), expected)
                self.assertEqual(same_wire(name=name, other=one, one=other), expected)

    def test_the_least_row(self):
        one = Net(["a", "b"], [("x", ["a", "b"], (0, 1, 1, 0))])
        for table in tables(2):
            other = Net(["a", "b"], [("k", [], (1,)), ("x", ["a", "b"], table)])
            rows = [row for row in range(4) if table[row] != (0, 1, 1, 0)[row]]
            self.assertEqual(same_wire(one, other, "x"), Unlike(rows[0]) if rows else Alike())

    def test_inputs_and_nets_with_themselves(self):
        self.assertEqual(same_wire(WHOLE, WHOLE, "out"), Alike())
        self.assertEqual(same_wire(WHOLE, Net(["a", "b"], []), "b"), Alike())

    def test_wrong_arguments(self):
        for value in wrong_values():
            with self.subTest(value=value):
                self.assert_raises(BadNet("one"), same_wire, value, WHOLE, "out")
                self.assert_raises(BadNet("one"), same_wire, value, value, None)
                self.assert_raises(BadNet("other"), same_wire, WHOLE, value, "out")
                self.assert_raises(BadNet("other"), same_wire, HALF, value, None)
        for value in no_names() + ["z", "hh"]:
            with self.subTest(value=value):
                self.assert_raises(NoWire(value), same_wire, WHOLE, WHOLE, value)

    def test_a_wire_of_one_net_alone(self):
        small = Net.read("a b : x 01 a")
        for name in ("h", "x", "n"):
            self.assert_raises(NoWire(name), same_wire, WHOLE, small, name)
            self.assert_raises(NoWire(name), same_wire, small, WHOLE, name)

    def test_nets_with_holes(self):
        for one, other in ((HALF, WHOLE), (WHOLE, HALF), (HALF, HALF)):
            for name in ("a", "n", "h", "out"):
                self.assert_raises(Misfit("holes"), same_wire, one, other, name)

    def test_other_inputs(self):
        one = Net.read("a b : x 01 a")
        for text in ("b a : x 01 a", "a : x 01 a", "a b c : x 01 a", "a c : x 01 a", "c a b : x 01 a"):
            self.assert_raises(Misfit("inputs"), same_wire, one, Net.read(text), "x")
            self.assert_raises(Misfit("inputs"), same_wire, Net.read(text), one, "a")

    def test_two_things_wrong(self):
        other = Net.read("b a : h ? a b")
        self.assert_raises(NoWire("out"), same_wire, HALF, other, "out")
        self.assert_raises(Misfit("holes"), same_wire, HALF, other, "h")
        self.assert_raises(Misfit("holes"), same_wire, WHOLE, other, "h")


class Facts(Told):
    def test_a_sure_wire_has_one_sign_whatever_the_choice(self):
        for net in NETS:
            found = runs_of(net)
            for name in net.wires:
                if net.is_sure(name):
                    self.assertTrue(all(signs[name] == column(net, name)[row] for (row, _), signs in found.items()))

    def test_tables_put_for_the_holes(self):
        chooser = random.Random(6)
        for net in NETS:
            filling = some_filling(chooser, net)
            for order in (net.holes, net.holes[::-1]):
                whole = net
                for hole in order:
                    whole = whole.put(hole, filling[net.holes.index(hole)])
                for row in rows_of(net):
                    signs = dict(zip(whole.wires, run(whole, row, ())))
                    choice = [
                        sign_at(table, [signs[source] for source in net.sources(hole)])
                        for hole, table in zip(net.holes, filling)
                    ]
                    self.assertEqual(run(whole, row, ()), run(net, row, choice))

    def test_another_order_of_the_gates(self):
        chooser = random.Random(7)
        for net in NETS:
            left, gates, ahead = list(net.gates), [], set(net.inputs)
            while left:
                gate = chooser.choice([gate for gate in left if set(gate[1]) <= ahead])
                left.remove(gate)
                gates.append(gate)
                ahead.add(gate[0])
            other = Net(net.inputs, gates)
            for (row, choice), signs in runs_of(net).items():
                told = dict(zip(net.holes, choice))
                found = run(other, row, [told[hole] for hole in other.holes])
                self.assertEqual(dict(zip(other.wires, found)), signs)

    def test_new_names(self):
        for net in NETS:
            named = {name: f"w{at}" for at, name in enumerate(net.wires)}
            gates = [(named[name], [named[source] for source in sources], table) for name, sources, table in net.gates]
            other = Net([named[name] for name in net.inputs], gates)
            for row in rows_of(net):
                for choice in choices_of(net):
                    self.assertEqual(run(other, row, choice), run(net, row, choice))

    def test_a_sure_gate_with_its_column_as_table(self):
        for net in NETS:
            for at, (name, _, table) in enumerate(net.gates):
                if table is not None and net.is_sure(name):
                    gates = list(net.gates)
                    gates[at] = (name, net.inputs, column(net, name))
                    self.assertEqual(runs_of(Net(net.inputs, gates)), runs_of(net))

    def test_a_struck_gate_with_the_sign_that_it_had(self):
        for net in NETS:
            for name, _, table in net.gates:
                if table is not None and len(net.holes) < 4 and not set(net.behind(name)) & set(net.holes):
                    struck = net.struck(name, [])
                    for (row, choice), signs in runs_of(net).items():
                        told = {**dict(zip(net.holes, choice)), name: signs[name]}
                        found = run(struck, row, [told[hole] for hole in struck.holes])
                        self.assertEqual(dict(zip(struck.wires, found)), signs)


class ShortTimes(Told):
    def test_the_greatest_net(self):
        begin = time.process_time()
        net = greatest_net()
        found = runs_of(net)
        self.assertEqual(len(found), 1024)
        for name in net.wires:
            if net.is_sure(name):
                self.assertEqual(len(column(net, name)), 64)
        whole = net
        for hole in net.holes:
            whole = whole.put(hole, (0, 1) * 32)
        for name in whole.wires:
            self.assertEqual(same_wire(whole, whole, name), Alike())
        self.assertLess(time.process_time() - begin, 4)
