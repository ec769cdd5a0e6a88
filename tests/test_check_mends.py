"""Checks of the papers about rows that do not matter: right ones, bent ones, and values of all kinds."""

import itertools
import random
import time

from holegates import check_mends as module
from holegates.check_mends import shows_idle
from holegates.errors import BadNet, BadNumber, Misfit, NoRow, NoWire, TooMany, Twice
from holegates.forms import Bends, Sound, Strays
from holegates.freerows import Idle, Matters, Wrong, idle
from holegates.nets import Net
from tests.support import (
    HUGE, EqualsAll, RaisesAlways, Told, bent_nets, bent_signs, greatest_net, nested_deep, no_names, right_nets,
    settings, some_nets, strange_values, wrong_signs, wrong_values,
)
from tests.test_freerows import all_pairs, some_pairs, wrong_cases

KEPT = Net.read("a : g 01 a / k 01 a / out 11110111 a g k")
BOTH = [("g", 1), ("k", 1)]
HOLES = Net.read("a : g 01 a / h ? a / out 11110111 a g h")
CASES = [
    *[(net, net.wires[-1]) for net in some_nets(40, 171, most_gates=4, most_holes=0)],
    *right_nets(60, 172), *bent_nets(40, 173),
]


class LikeIdle(Idle):
    """A class below Idle: its papers are no Idles."""


class LikeMatters(Matters):
    """A class below Matters: its papers are none."""


class RightPapers(Told):
    def test_what_idle_tells(self):
        chooser = random.Random(174)
        for net, wish in CASES:
            for _ in range(3):
                rows = some_pairs(chooser, net, 8)
                self.assertIs(shows_idle(net, wish, rows, idle(net, wish, rows)), True)
                lists = [list(pair) for pair in rows]
                self.assertIs(shows_idle(value=idle(net, wish, rows), rows=lists, wish=wish, net=net), True)

    def test_just_such_rows_and_signs(self):
        chooser = random.Random(175)
        found = [0, 0]
        for net, wish in CASES:
            rows = some_pairs(chooser, net, 3)
            wrong = wrong_cases(net, wish, rows)
            self.assertIs(shows_idle(net, wish, rows, Idle()), not wrong)
            many = 2 ** len(net.inputs)
            for row, signs in itertools.product(range(-1, many + 2), settings(len(rows))):
                matters = (row, signs) in wrong
                found[matters] += 1
                self.assertIs(shows_idle(net, wish, rows, Matters(row, signs)), matters)
                self.assertIs(shows_idle(net, wish, rows, Matters(row, list(signs))), matters)
        self.assertGreater(min(found), 500)

    def test_no_pairs(self):
        self.assertIs(shows_idle(KEPT, "out", [], Idle()), True)
        self.assertIs(shows_idle(KEPT, "out", (), Matters(1, ())), False)
        self.assertIs(shows_idle(KEPT, "a", [], Idle()), False)
        self.assertIs(shows_idle(KEPT, "a", [], Matters(0, [])), True)
        self.assertIs(shows_idle(KEPT, "a", [], Matters(1, [])), False)
        self.assertIs(shows_idle(KEPT, "a", [], Matters(0, [0])), False)

    def test_signs_stand_as_the_pairs_are_passed(self):
        net = Net.read("a : g 11 a / k 11 a / out 1011 g k")
        self.assertIs(shows_idle(net, "out", [("g", 0), ("k", 0)], Matters(0, (0, 1))), True)
        self.assertIs(shows_idle(net, "out", [("g", 0), ("k", 0)], Matters(0, (1, 0))), False)
        self.assertIs(shows_idle(net, "out", [("k", 0), ("g", 0)], Matters(0, (1, 0))), True)
        self.assertIs(shows_idle(net, "out", [("k", 0), ("g", 0)], Matters(0, (0, 1))), False)
        self.assertIs(shows_idle(net, "out", [("k", 0), ("g", 0)], Matters(1, (1, 0))), False)


class BentPapers(Told):
    def test_bent_rows(self):
        self.assertIs(shows_idle(KEPT, "out", BOTH, Matters(1, (0, 0))), True)
        for value in wrong_values() + [2, -1, HUGE, -HUGE, "1", 1.0, [1], RaisesAlways(), EqualsAll(),
                                       nested_deep(1, 25)]:
            if type(value) is not int or value != 1:
                with self.subTest(value=value):
                    self.assertIs(shows_idle(KEPT, "out", BOTH, Matters(value, (0, 0))), False)

    def test_bent_signs(self):
        for bent in bent_signs((0, 0)) + wrong_signs(2) + [
            [[0, 0]], [[0], [0]], nested_deep((0, 0), 25), RaisesAlways(), EqualsAll(), [0, RaisesAlways()],
            [EqualsAll(), 0], (0, 0) * 9000,
        ]:
            with self.subTest(bent=bent):
                self.assertIs(shows_idle(KEPT, "out", BOTH, Matters(1, bent)), False)

    def test_truths_for_signs_and_rows(self):
        for paper in (Matters(True, (0, 0)), Matters(1, (False, 0)), Matters(1, (0, False)), Matters((0, 0), 1)):
            self.assertIs(shows_idle(KEPT, "out", BOTH, paper), False)

    def test_papers_of_other_classes(self):
        papers = [Idle(), LikeIdle(), Sound(), Wrong(1)]
        papers += [made(1, (0, 0)) for made in (Matters, LikeMatters, Strays, Bends)]
        for rows, right in ((BOTH, Matters(1, (0, 0))), (BOTH[:1], Idle())):
            for paper in papers:
                self.assertIs(shows_idle(KEPT, "out", rows, paper), paper == right)

    def test_values_that_are_no_papers(self):
        for value in strange_values() + [Idle, Matters, (1, (0, 0)), "idle"]:
            for rows in (BOTH, BOTH[:1], []):
                self.assertIs(shows_idle(KEPT, "out", rows, value), False)


class WrongArguments(Told):
    def test_errors_as_of_idle(self):
        many = [("out", number) for number in range(8)] + [("g", 0)]
        for paper in (Idle(), Matters(1, (0, 0)), None, RaisesAlways()):
            for value in wrong_values() + [str(KEPT)]:
                self.assert_raises(BadNet("net"), shows_idle, value, None, None, paper)
            for value in no_names() + ["z", HUGE]:
                self.assert_raises(NoWire(value), shows_idle, HOLES, value, None, paper)
            for value in (True, None, 0, "g", ("g", 0), [("g", 0), ("g",)], [("g", True)], [(0, "g")], [["g", "0"]]):
                self.assert_raises(BadNumber("rows"), shows_idle, HOLES, "out", value, paper)
            self.assert_raises(BadNumber("rows"), shows_idle, HOLES, "out", [("z", 99), ("A", 0)], paper)
            self.assert_raises(NoWire("z"), shows_idle, HOLES, "out", [("g", 1), ("g", 1), ("z", 9), ("g", 9)], paper)
            self.assert_raises(NoWire("a"), shows_idle, HOLES, "out", [("a", 0)], paper)
            self.assert_raises(NoRow(2), shows_idle, HOLES, "out", [("g", 1), ("g", 1), ("g", 2), ("z", 0)], paper)
            pair = ["g", 1]
            self.assert_raises(Twice(pair), shows_idle, HOLES, "out", [("g", 1), pair, *many], paper)
            self.assert_raises(Misfit("holes"), shows_idle, HOLES, "out", many, paper)
            self.assert_raises(TooMany("pairs", 8), shows_idle, KEPT, "out", many, paper)

    def test_it_is_defined_in_this_file(self):
        self.assertEqual(module.shows_idle.__module__, "holegates.check_mends")


class ShortTimes(Told):
    def test_the_greatest_nets(self):
        begin = time.process_time()
        net = greatest_net()
        for hole in net.holes:
            net = net.put(hole, [0, 1, 1, 0] * 16)
        chooser = random.Random(176)
        for wish in net.wires[-3:]:
            for _ in range(5):
                rows = chooser.sample(all_pairs(net), 8)
                self.assertIs(shows_idle(net, wish, rows, idle(net, wish, rows)), True)
                self.assertIs(shows_idle(net, wish, rows, Idle()), bool(idle(net, wish, rows)))
                shows_idle(net, wish, rows, Matters(63, (1,) * 8))
        self.assertLess(time.process_time() - begin, 4)
