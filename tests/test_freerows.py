"""Rows of gates that do not matter, against turning each sign, and all signs at once, at all rows."""

import itertools
import random
import time

from holegates import freerows as module
from holegates.errors import BadNet, BadNumber, Impossible, Misfit, NoRow, NoWire, TooMany, Twice
from holegates.freerows import Idle, Matters, Wrong, free_rows, idle
from holegates.nets import Net
from holegates.papers import Denial, Paper
from holegates.tasks import Task
from tests.support import (
    HUGE, NAMES_OF_INPUTS, EqualsAll, Told, beyond, bent_nets, drawn_wish, no_integers, no_names, right_nets, settings,
    some_nets, tables, wrong_values,
)

KEPT = Net.read("a : g 01 a / k 01 a / out 11110111 a g k")
NET = Net.read("a b : g 0001 a b / out 1011 g a")
HOLES = Net.read("a : g 01 a / h ? a / out 11110111 a g h")
RIGHT = [case for case in right_nets(90, 161) + bent_nets(60, 162) if all(drawn_wish(*case, {}))]
CASES = [
    *[(net, net.wires[-1]) for net in some_nets(50, 163, most_gates=4, most_holes=0)],
    *right_nets(60, 164), *bent_nets(60, 165),
]


def with_signs(net, rows, signs):
    """For the gates of the pairs their sources, and their tables with these signs at these settings."""
    found = {name: (sources, list(table)) for name, sources, table in net.gates}
    for (name, number), sign in zip(rows, signs):
        found[name][1][number] = sign
    return found


def wrong_cases(net, wish, rows):
    """All pairs of a row and signs with which the wish is 0 there."""
    return [
        (row, signs) for signs in settings(len(rows))
        for row, sign in enumerate(drawn_wish(net, wish, with_signs(net, rows, signs))) if sign == 0
    ]


def all_pairs(net):
    return [(name, number) for name, _, table in net.gates for number in range(len(table))]


def some_pairs(chooser, net, most):
    pairs = all_pairs(net)
    return chooser.sample(pairs, chooser.randint(0, min(most, len(pairs))))


class Papers(Told):
    def test_wrong(self):
        for paper in (Wrong(3), Wrong(row=3)):
            self.assertIsInstance(paper, Denial)
            self.assert_same((paper.word, paper.parts, paper.row, bool(paper)), ("wrong", (3,), 3, False))
        self.assertEqual(Wrong(3), Wrong(3))
        self.assertNotEqual(Wrong(3), Wrong(2))

    def test_idle(self):
        paper = Idle()
        self.assertIsInstance(paper, Paper)
        self.assertNotIsInstance(paper, Denial)
        self.assert_same((paper.word, paper.parts, bool(paper)), ("idle", (), True))
        self.assertEqual(Idle(), Idle())

    def test_matters(self):
        for paper in (Matters(2, [0, 1]), Matters(signs=(0, 1), row=2)):
            self.assertIsInstance(paper, Denial)
            self.assert_same((paper.word, paper.parts), ("matters", (2, (0, 1))))
            self.assert_same((paper.row, paper.signs, bool(paper)), (2, (0, 1), False))
        self.assertEqual(Matters(2, [0, 1]), Matters(2, (0, 1)))
        self.assertNotEqual(Matters(2, (0, 1)), Matters(2, (1, 0)))

    def test_any_values(self):
        for value in wrong_values():
            if not isinstance(value, list):
                self.assertIs(Wrong(value).row, value)
                self.assertIs(Matters(value, 0).row, value)
                self.assertIs(Matters(0, value).signs, value)

    def test_they_are_defined_in_this_file(self):
        for name in ("Wrong", "Idle", "Matters", "free_rows", "idle"):
            self.assertEqual(getattr(module, name).__module__, "holegates.freerows")


class AgainstTurningSigns(Told):
    def test_free_rows(self):
        found = [0, 0]
        for net, wish in RIGHT:
            for name, _, table in net.gates:
                expected = tuple(
                    number for number in range(len(table))
                    if not wrong_cases(net, wish, [(name, number)])
                )
                self.assert_same(free_rows(net, wish, name), expected)
                self.assert_same(free_rows(name=name, wish=wish, net=net), expected)
                found = [found[0] + len(expected), found[1] + len(table) - len(expected)]
        self.assertGreater(min(found), 300)

    def test_of_a_wrong_net_the_least_wrong_row(self):
        rows = set()
        for net, wish in CASES:
            signs = drawn_wish(net, wish, {})
            if not all(signs):
                for name, _, _ in net.gates:
                    with self.assertRaises(Impossible) as caught:
                        free_rows(net, wish, name)
                    self.assertEqual(vars(caught.exception), {"paper": Wrong(signs.index(0))})
                rows.add(signs.index(0))
        self.assertGreater(len(rows), 4)

    def test_idle_or_matters(self):
        chooser = random.Random(166)
        found = {"idle": 0, "matters": 0}
        for net, wish in CASES + RIGHT:
            for most in (2, 4, 5):
                rows = some_pairs(chooser, net, most)
                wrong = wrong_cases(net, wish, rows)
                paper = idle(net, wish, rows)
                found[paper.word] += 1
                self.assertIs(type(paper), Matters if wrong else Idle)
                if wrong:
                    self.assertIn(paper.parts, wrong)
                    self.assert_same(paper.parts, tuple(paper.parts))
                lists = [list(pair) for pair in rows]
                self.assertEqual(idle(rows=lists, wish=wish, net=net), paper)
                self.assertEqual(idle(net, wish, tuple(rows)), paper)
        self.assertGreater(min(found.values()), 60)

    def test_signs_stand_as_the_pairs_were_passed(self):
        for rows in itertools.permutations([("g", 1), ("k", 1), ("g", 0)]):
            paper = idle(KEPT, "out", rows)
            self.assertEqual(paper.row, 1)
            signs = dict(zip(rows, paper.signs))
            self.assertEqual((signs[("g", 1)], signs[("k", 1)]), (0, 0))


class Edges(Told):
    def test_no_pairs(self):
        self.assertEqual(idle(KEPT, "out", []), Idle())
        self.assertEqual(idle(KEPT, "out", ()), Idle())
        self.assertEqual(idle(NET, "out", []), Matters(2, ()))
        self.assertEqual(idle(Net(["a"], []), "a", []), Matters(0, ()))

    def test_wishes_that_are_inputs(self):
        self.assertEqual(idle(KEPT, "a", [("g", 0)]).row, 0)
        with self.assertRaises(Impossible) as caught:
            free_rows(KEPT, "a", "g")
        self.assertEqual(caught.exception.paper, Wrong(0))

    def test_gates_without_sources(self):
        net = Net.read("a : g 1 / k 0 / out 0111 g a")
        self.assertEqual(idle(net, "out", [("g", 0)]), Matters(0, (0,)))
        self.assertEqual(idle(net, "out", [("k", 0)]), Idle())
        whole = Net.read("a : g 1 / k 0 / out 0111 g k")
        self.assert_same([free_rows(whole, "out", name) for name in ("g", "k", "out")], [(), (0,), (0, 1, 3)])
        self.assertEqual(idle(whole, "out", [("k", 0), ("g", 0)]), Matters(0, (0, 0)))

    def test_settings_that_no_row_brings(self):
        net = Net.read("a : n 10 a / g 0110 a n / out 01 g")
        self.assert_same(free_rows(net, "out", "g"), (0, 3))
        self.assertEqual(idle(net, "out", [("g", 0), ("g", 3)]), Idle())
        self.assertEqual(idle(net, "out", [("g", 0), ("g", 1)]), Matters(0, (0, 0)))

    def test_a_gate_that_nothing_hangs_on(self):
        net = Net.read("a b : loose 0110 a b / out 11 a")
        self.assert_same(free_rows(net, "out", "loose"), (0, 1, 2, 3))
        self.assertEqual(idle(net, "out", [("loose", number) for number in range(4)]), Idle())

    def test_signs_that_put_a_wrong_net_right_are_not_enough(self):
        net = Net.read("a : g 00 a / out 01 g")
        self.assertFalse(idle(net, "out", [("g", 0), ("g", 1)]))
        self.assertFalse(idle(net, "out", [("g", 0)]))

    def test_just_eight_pairs_and_nine(self):
        net = Net.read("a b c : g 00000000 a b c / k 01 a / out 11 g")
        eight = [("g", number) for number in range(8)]
        self.assertEqual(idle(net, "out", eight), Idle())
        paper = idle(net, "g", eight)
        self.assertEqual(paper.signs[paper.row], 0)
        self.assert_raises(TooMany("pairs", 8), idle, net, "out", [*eight, ("k", 0)])

    def test_pairs_of_more_gates_than_a_net_can_have_holes(self):
        gates = " / ".join(f"g{at} 1" for at in range(8))
        net = Net.read(f"a : {gates} / x 00010111 g0 g1 g2 / y 00010111 g3 g4 g5 / z 0001 g6 g7 / out 01111111 x y z")
        pairs = [(f"g{at}", 0) for at in range(8)]
        for lot in itertools.combinations(pairs, 4):
            self.assertEqual(bool(idle(net, "out", lot)), not wrong_cases(net, "out", lot))
        paper = idle(net, "out", pairs)
        self.assertIn(paper.parts, wrong_cases(net, "out", pairs))


class WrongArguments(Told):
    def test_what_is_no_net(self):
        for value in wrong_values() + [str(NET), Task(NET, "out")]:
            self.assert_raises(BadNet("net"), free_rows, value, None, None)
            self.assert_raises(BadNet("net"), idle, value, None, None)

    def test_what_is_no_wire_and_no_gate(self):
        for value in no_names() + ["z", "g1", HUGE, -1, EqualsAll()]:
            for net in (KEPT, NET, HOLES):
                self.assert_raises(NoWire(value), free_rows, net, value, "y")
                self.assert_raises(NoWire(value), idle, net, value, None)
                self.assert_raises(NoWire(value), free_rows, net, "out", value)
        self.assert_raises(NoWire("a"), free_rows, KEPT, "out", "a")
        self.assert_raises(NoWire("a"), free_rows, HOLES, "out", "a")

    def test_nets_with_holes(self):
        for name in ("g", "h", "out"):
            self.assert_raises(Misfit("holes"), free_rows, HOLES, "out", name)
        self.assert_raises(Misfit("holes"), idle, HOLES, "out", [])
        self.assert_raises(Misfit("holes"), idle, HOLES, "out", [("h", 1)])

    def test_what_is_no_list_of_pairs(self):
        for net in (KEPT, NET, HOLES):
            for value in wrong_values() + ["g0", ("g", 0), ["g", 0], {("g", 0)}, {"g": 0}, EqualsAll()]:
                if value != [] and value != ():
                    with self.subTest(value=value):
                        self.assert_raises(BadNumber("rows"), idle, net, "out", value)
            for pair in ("g0", 7, None, (), ("g",), ("g", 0, 0), [["g", 0]], {"g": 0}, (0, "g"), EqualsAll()):
                with self.subTest(pair=pair):
                    self.assert_raises(BadNumber("rows"), idle, net, "out", [("z", 99), ("g", 0), ("g", 0), pair])
            for value in no_integers():
                self.assert_raises(BadNumber("rows"), idle, net, "out", [("z", 0), ("g", value)])
            for value in no_names():
                self.assert_raises(BadNumber("rows"), idle, net, "out", [("z", 0), (value, 0)])

    def test_pairs_in_order(self):
        for net in (KEPT, HOLES):
            for name in ("z", "a", "gg"):
                self.assert_raises(NoWire(name), idle, net, "out", [("g", 0), (name, 99)])
                self.assert_raises(NoWire(name), idle, net, "out", [("g", 0), ("g", 0), (name, 0), ("g", 99)])
            for number in beyond(0, 1) + [2]:
                self.assert_raises(NoRow(number), idle, net, "out", [("g", number)])
                self.assert_raises(NoRow(number), idle, net, "out", [["g", 0], ["g", 0], ["g", number], ["z", 0]])
        self.assert_raises(NoRow(8), idle, KEPT, "out", [("out", 7), ("out", 8)])
        self.assert_raises(NoRow(1), idle, Net.read("a : g 1"), "g", [("g", 1)])
        self.assert_raises(NoRow(2), idle, HOLES, "out", [("h", 2)])

    def test_what_stands_twice(self):
        for net in (KEPT, HOLES):
            for one, other in itertools.product((("g", 1), ["g", 1]), repeat=2):
                self.assert_raises(Twice(other), idle, net, "out", [one, ("g", 0), other, ("g", 0)])
        many = [("out", number) for number in range(8)]
        self.assert_raises(Twice(many[0]), idle, KEPT, "out", many + many)

    def test_holes_come_ahead_of_too_many(self):
        many = [("out", number) for number in range(8)] + [("g", 0)]
        self.assert_raises(Misfit("holes"), idle, HOLES, "out", many)
        self.assert_raises(TooMany("pairs", 8), idle, KEPT, "out", many)


class Facts(Told):
    def test_of_one_gate_all_free_rows_at_once_do_no_harm(self):
        for net, wish in RIGHT:
            for name, sources, table in net.gates:
                free = free_rows(net, wish, name)
                if len(free) <= 8:
                    self.assertEqual(idle(net, wish, [(name, number) for number in free]), Idle())
                if len(sources) <= 3:
                    for other in tables(len(sources)):
                        kept = all(other[at] == table[at] for at in range(len(table)) if at not in free)
                        right = all(drawn_wish(net, wish, {name: (sources, other)}))
                        self.assertEqual(right, kept)

    def test_one_pair_is_idle_exactly_if_it_is_a_free_row(self):
        for net, wish in RIGHT:
            for name, number in all_pairs(net):
                self.assertIs(bool(idle(net, wish, [(name, number)])), number in free_rows(net, wish, name))

    def test_of_a_gate_and_its_copy_one_may_fail(self):
        many = 0
        for net in some_nets(60, 167, most_inputs=3, most_gates=3, most_holes=0):
            if not net.gates:
                continue
            name, sources, table = net.gates[-1]
            plan = [1 - sign for sign in drawn_wish(net, name, {})]
            gates = [*net.gates, ("copy", sources, table), ("plan", net.inputs, plan)]
            # It is right where one of both at least is as planned.
            whole = Net(net.inputs, [*gates, ("out", (name, "copy", "plan"), (0, 1, 1, 1, 1, 1, 1, 0))])
            every = tuple(range(len(table)))
            self.assertEqual((free_rows(whole, "out", name), free_rows(whole, "out", "copy")), (every, every))
            brought = [number for number in every if wrong_cases(whole, "out", [(name, number), ("copy", number)])]
            for number in every:
                many += number in brought
                both = idle(whole, "out", [(name, number), ("copy", number)])
                self.assertIs(bool(both), number not in brought)
                self.assertTrue(idle(whole, "out", [("copy", number)]))
        self.assertGreater(many, 40)

    def test_fewer_pairs_of_idle_ones_are_idle(self):
        chooser = random.Random(168)
        for net, wish in RIGHT:
            rows = some_pairs(chooser, net, 4)
            if idle(net, wish, rows):
                for many in range(len(rows)):
                    for lot in itertools.combinations(rows, many):
                        self.assertEqual(idle(net, wish, lot), Idle())


class NothingIsChanged(Told):
    def test_nets_and_pairs_stay(self):
        chooser = random.Random(169)
        for net, wish in CASES[:60]:
            rows = [list(pair) for pair in some_pairs(chooser, net, 4)]
            before = (str(net), [list(pair) for pair in rows])
            self.assertEqual(idle(Net.read(str(net)), wish, rows), idle(net, wish, rows))
            self.assert_same((str(net), rows), before)


class ShortTimes(Told):
    def test_the_greatest_nets(self):
        begin = time.process_time()
        chooser = random.Random(170)
        names = list(NAMES_OF_INPUTS)
        gates = []
        for at in range(24):
            sources = chooser.sample(names, 6)
            gates.append((f"g{at}", sources, tuple(chooser.randrange(2) for _ in range(64))))
            names.append(f"g{at}")
        net = Net(NAMES_OF_INPUTS, gates)
        for _ in range(10):
            rows = chooser.sample(all_pairs(net), 8)
            paper = idle(net, "g23", rows)
            self.assertEqual(drawn_wish(net, "g23", with_signs(net, rows, paper.signs))[paper.row], 0)
        planned = drawn_wish(net, "g21", {})
        gates = [*net.gates[:22], ("plan", net.inputs, planned), ("out", ("g21", "plan"), (1, 0, 0, 1))]
        whole = Net(net.inputs, gates)
        for name, _, _ in gates:
            free = free_rows(whole, "out", name)
            self.assertEqual(idle(whole, "out", [(name, number) for number in free[:8]]), Idle())
        self.assertLess(time.process_time() - begin, 6)
