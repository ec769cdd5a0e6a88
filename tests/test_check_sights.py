"""Checks of the papers about the wires that a hole must see: right ones, bent ones, and values of all kinds."""

import itertools
import random
import time

from holegates import check_sights as module
from holegates.check_sights import shows_enough
from holegates.errors import BadTask, Misfit, NoWire, TooMany, Twice
from holegates.ladders import Plan
from holegates.nets import Net
from holegates.sights import Enough, Short, apart, enough
from holegates.single import Clash
from holegates.tasks import Task
from tests.support import (
    HUGE, EqualsAll, RaisesAlways, Told, bent_signs, nested_deep, no_names, some_tables, strange_values, tables,
    wrong_tables, wrong_values,
)
from tests.test_sights import DrawnSights, one_hole_nets, some_wires

NET = Net.read("a b c : w 0001 a b / h ? a / out 1001 h w")
TASK = Task(NET, "out")
FREE = Task(Net.read("a : h ? a / out 11 h"), "out")
LOST = Task(Net.read("a : h ? / out 0011 a h"), "out")
NO_HOLE = Task(Net.read("a b c d e f : x 01 a / y 10 a / z 11 a"), "x")
TASKS = one_hole_nets(120, 141)


class LikeEnough(Enough):
    """A class below Enough: its papers are no Enoughs."""


class LikeShort(Short):
    """A class below Short: its papers are no Shorts."""


class RightPapers(Told):
    def test_what_enough_tells(self):
        chooser = random.Random(142)
        for task in TASKS:
            made = DrawnSights(task)
            for _ in range(3):
                wires = some_wires(chooser, made, 6)
                self.assertIs(shows_enough(task, wires, enough(task, wires)), True)
                self.assertIs(shows_enough(value=enough(task, wires), wires=tuple(wires), task=task), True)

    def test_just_the_tables_that_serve(self):
        chooser = random.Random(143)
        found = [0, 0]
        for task in TASKS:
            made = DrawnSights(task)
            wires = some_wires(chooser, made, 3)
            for table in tables(len(wires)) if len(wires) < 3 else some_tables(3, 20, 144) + [list(range(8))]:
                right = table != list(range(8)) and made.serves(table, wires)
                found[right] += 1
                self.assertIs(shows_enough(task, wires, Enough(table)), right)
                self.assertIs(shows_enough(task, wires, Enough(list(table))), right)
        self.assertGreater(min(found), 60)

    def test_just_the_pairs_apart_that_no_wire_parts(self):
        chooser = random.Random(145)
        found = [0, 0]
        for task in TASKS:
            made = DrawnSights(task)
            wires = some_wires(chooser, made, 3)
            pairs = made.apart()
            for one, other in itertools.product(range(-1, task.many + 1), repeat=2):
                right = (one, other) in pairs and made.setting(one, wires) == made.setting(other, wires)
                found[right] += 1
                self.assertIs(shows_enough(task, wires, Short(one, other)), right)
        self.assertGreater(min(found), 200)

    def test_settings_that_no_row_has(self):
        task = Task(Net.read("a : n 10 a / h ? / out 10 h"), "out")
        for first, last in itertools.product((0, 1), repeat=2):
            self.assertIs(shows_enough(task, ["a", "n"], Enough([first, 0, 0, last])), True)
            self.assertIs(shows_enough(task, ["a", "n"], Enough([first, 1, 0, last])), False)

    def test_the_order_of_the_wires(self):
        task = Task(Net.read("a b : w 0100 a b / h ? / out 1001 h w"), "out")
        self.assertIs(shows_enough(task, ["a", "b"], Enough([0, 1, 0, 0])), True)
        self.assertIs(shows_enough(task, ["b", "a"], Enough([0, 1, 0, 0])), False)
        self.assertIs(shows_enough(task, ["b", "a"], Enough([0, 0, 1, 0])), True)

    def test_no_wires_at_all(self):
        for value, expected in ((Enough([0]), True), (Enough([1]), True), (Enough([]), False), (Enough([0, 0]), False)):
            self.assertIs(shows_enough(FREE, [], value), expected)
        self.assertIs(shows_enough(TASK, (), Enough([0])), False)
        self.assertIs(shows_enough(TASK, (), Short(6, 0)), True)
        self.assertIs(shows_enough(TASK, (), Short(0, 6)), False)

    def test_lost_rows(self):
        for wires in ([], ["a"]):
            self.assertIs(shows_enough(LOST, wires, Short(0, 0)), True)
            self.assertIs(shows_enough(LOST, wires, Short(1, 1)), False)
            for table in tables(len(wires)):
                self.assertIs(shows_enough(LOST, wires, Enough(table)), False)


class BentPapers(Told):
    def test_bent_tables(self):
        right = (0, 0, 0, 1)
        self.assertIs(shows_enough(TASK, ["a", "b"], Enough(right)), True)
        for bent in bent_signs(right) + wrong_tables() + [
            [right], nested_deep(right, 20), RaisesAlways(), EqualsAll(), right * 2, [0] * 19000, {},
        ]:
            with self.subTest(bent=bent):
                self.assertIs(shows_enough(TASK, ["a", "b"], Enough(bent)), False)

    def test_truths_for_signs_and_rows(self):
        self.assertIs(shows_enough(TASK, ["w"], Enough([0, 1])), True)
        for bent in ([False, True], [0, True], [False, 1]):
            self.assertIs(shows_enough(TASK, ["w"], Enough(bent)), False)
        for pair in ((False, 0), (0, False), (False, False), (0.0, 0), ("0", "0"), (None, 0), ([0], 0), (0, (0,))):
            self.assertIs(shows_enough(LOST, [], Short(*pair)), False)

    def test_rows_beyond_and_values_that_are_no_rows(self):
        self.assertIs(shows_enough(TASK, [], Short(6, 0)), True)
        for value in wrong_values() + [8, -8, HUGE, -HUGE, RaisesAlways(), EqualsAll(), nested_deep(6, 25)]:
            with self.subTest(value=value):
                self.assertIs(shows_enough(TASK, [], Short(value, 0)), False)
                if type(value) is not int or value not in range(8):
                    self.assertIs(shows_enough(TASK, [], Short(6, value)), False)

    def test_rows_exchanged(self):
        for one, other in apart(TASK):
            self.assertIs(shows_enough(TASK, [], Short(one, other)), True)
            self.assertIs(shows_enough(TASK, [], Short(other, one)), False)

    def test_papers_of_other_classes(self):
        for wires, paper in ((["a", "b"], Enough([0, 0, 0, 1])), (["a", "c"], Short(6, 4))):
            for made in (Enough, LikeEnough, Plan):
                value = made([0, 0, 0, 1])
                self.assertIs(shows_enough(TASK, wires, value), made is Enough and wires == ["a", "b"])
            for made in (Short, LikeShort, Clash):
                self.assertIs(shows_enough(TASK, wires, made(6, 4)), made is Short and wires == ["a", "c"])
            self.assertIs(shows_enough(TASK, wires, paper), True)

    def test_values_that_are_no_papers(self):
        for value in strange_values() + [(0, 0, 0, 1), (6, 4)]:
            for wires in (["a", "b"], ["a", "c"], []):
                self.assertIs(shows_enough(TASK, wires, value), False)


class WrongArguments(Told):
    def test_errors_as_of_enough(self):
        papers = [Enough([0, 0, 0, 1]), Short(6, 4), None, RaisesAlways()]
        sure = Task(Net.read("a b c d e f : h ? / x 01 a / y 01 a / z 01 a / out 01 h"), "out")
        nine = ["a", "b", "c", "d", "e", "f", "x", "y", "z"]
        for paper in papers:
            for value in wrong_values() + [NET]:
                self.assert_raises(BadTask("task"), shows_enough, value, ["z"], paper)
            for value in (True, None, 0, "a", "a b", {"a": 1}, {"a"}, object(), EqualsAll()):
                self.assert_raises(NoWire(value), shows_enough, TASK, value, paper)
            for value in no_names() + ["q"]:
                self.assert_raises(NoWire(value), shows_enough, NO_HOLE, ["a", "a", value], paper)
            self.assert_raises(Twice("a"), shows_enough, NO_HOLE, ["a", "x", "a"], paper)
            self.assert_raises(Misfit("holes"), shows_enough, NO_HOLE, nine, paper)
            self.assert_raises(Misfit("hole"), shows_enough, sure, [*nine, "h"], paper)
            self.assert_raises(Misfit("hole"), shows_enough, sure, ["out"], paper)
            self.assert_raises(TooMany("wires", 8), shows_enough, sure, nine, paper)

    def test_it_is_defined_in_this_file(self):
        self.assertEqual(module.shows_enough.__module__, "holegates.check_sights")


class ShortTimes(Told):
    def test_the_greatest_tasks(self):
        begin = time.process_time()
        chooser = random.Random(146)
        signs = "".join(str(chooser.randrange(2)) for _ in range(64))
        gates = " / ".join(
            f"g{at} {''.join(str(chooser.randrange(2)) for _ in range(64))} a b c d e f" for at in range(8)
        )
        task = Task(Net.read(f"a b c d e f : {gates} / w {signs} a b c d e f / h ? a / out 1001 h w"), "out")
        for wires in ([f"g{at}" for at in range(8)], [*"abcdef", "g0", "g1"]):
            for _ in range(5):
                self.assertIs(shows_enough(task, wires, enough(task, wires)), True)
                shows_enough(task, wires, Enough([0, 1] * 128))
                shows_enough(task, wires, Short(1, 2))
        self.assertLess(time.process_time() - begin, 4)
