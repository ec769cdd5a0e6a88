"""Checks of the papers about tasks with one hole: right ones, bent ones, and values of all kinds."""

import itertools
import time

from holegates import check_single as module
from holegates.check_single import shows_between
from holegates.errors import BadTask, Misfit
from holegates.ladders import Plan, Trap
from holegates.nets import Net
from holegates.single import Between, Clash, between
from holegates.tasks import Task
from tests.support import (
    HUGE, NAMES_OF_INPUTS, Drawn, EqualsAll, RaisesAlways, Told, bent_signs, greatest_net, nested_deep, one_hole_tasks,
    strange_values, tables, wrong_values,
)

TASK = Task(Net.read("a b : h ? a b / u 0001 a h / v 0010 b h / w 0111 u v / x 0111 a b / out 1001 w x"), "out")
ODD = Task(Net.read("a b : h ? a b / u 0001 a h / v 0010 b h / w 0111 u v / x 0110 a b / out 1001 w x"), "out")
BLIND = Task(Net.read("a b : h ? / u 0001 a h / v 0010 b h / w 0111 u v / x 0111 a b / out 1001 w x"), "out")
TASKS = one_hole_tasks(120, 41)


class LikeBetween(Between):
    """A class below Between: its papers are no Betweens."""


class LikeClash(Clash):
    """A class below Clash: its papers are no Clashes."""


class RightPapers(Told):
    def test_what_between_tells(self):
        for task in TASKS:
            self.assertIs(shows_between(task, between(task)), True)
            self.assertIs(shows_between(value=between(task), task=task), True)

    def test_just_the_least_and_the_greatest_of_all_pairs_of_tables(self):
        for task in TASKS:
            if len(task.sights[0]) > 2:
                continue
            right = [table for table, in Drawn(task).right_fillings()]
            ends = (min(right, key=sum), max(right, key=sum)) if right else None
            for pair in itertools.product(tables(len(task.sights[0])), repeat=2):
                self.assertIs(shows_between(task, Between(*pair)), pair == ends)

    def test_just_the_pairs_of_alike_rows_that_want_1_and_0(self):
        many = 0
        for task in TASKS:
            drawn = Drawn(task)
            for one, other in itertools.product(range(-2, drawn.many + 3), repeat=2):
                expected = (
                    0 <= one < drawn.many and 0 <= other < drawn.many and drawn.views[one] == drawn.views[other]
                    and (0,) not in drawn.right[one] and (1,) not in drawn.right[other]
                )
                self.assertIs(shows_between(task, Clash(one, other)), expected)
                many += expected
        self.assertGreater(many, 100)

    def test_lists_for_tuples(self):
        self.assertIs(shows_between(TASK, Between([0, 0, 1, 0], [1, 0, 1, 1])), True)
        self.assertIs(shows_between(TASK, Between((0, 0, 1, 0), [1, 0, 1, 1])), True)
        self.assertIs(shows_between(TASK, Between(greatest=[1, 0, 1, 1], least=[0, 0, 1, 0])), True)

    def test_lost_rows_and_alike_rows(self):
        self.assertIs(shows_between(ODD, Clash(3, 3)), True)
        self.assertIs(shows_between(BLIND, Clash(2, 1)), True)
        self.assertIs(shows_between(BLIND, Clash(1, 2)), False)
        self.assertIs(shows_between(BLIND, Clash(2, 2)), False)
        self.assertIs(shows_between(TASK, Clash(2, 1)), False)


class BentPapers(Told):
    def test_bent_tables(self):
        least, greatest = (0, 0, 1, 0), (1, 0, 1, 1)
        for bent in bent_signs(least) + [greatest, [least], nested_deep(least, 20), RaisesAlways(), EqualsAll()]:
            with self.subTest(bent=bent):
                self.assertIs(shows_between(TASK, Between(bent, greatest)), False)
        for bent in bent_signs(greatest) + [least, [greatest], nested_deep(greatest, 20), RaisesAlways(), EqualsAll()]:
            with self.subTest(bent=bent):
                self.assertIs(shows_between(TASK, Between(least, bent)), False)
        self.assertIs(shows_between(TASK, Between(greatest, least)), False)

    def test_truths_for_signs_and_numbers(self):
        self.assertIs(shows_between(TASK, Between((False, False, True, False), (True, False, True, True))), False)
        one = Task(Net.read("a : h ? / out 0010 a h"), "out")
        self.assertIs(shows_between(one, Clash(0, 0)), True)
        for pair in ((False, 0), (0, False), (False, False), (0.0, 0), ("0", "0"), (None, 0), ([0], 0), (0, (0,))):
            self.assertIs(shows_between(one, Clash(*pair)), False)
        blind = Task(Net.read("a : h ? / out 0110 a h"), "out")
        self.assertIs(shows_between(blind, Clash(0, 1)), True)
        self.assertIs(shows_between(blind, Clash(False, True)), False)

    def test_rows_beyond_and_values_that_are_no_rows(self):
        for value in wrong_values() + [4, HUGE, -HUGE, -1, RaisesAlways(), EqualsAll(), nested_deep(3, 25)]:
            with self.subTest(value=value):
                self.assertIs(shows_between(ODD, Clash(value, 3)), False)
                self.assertIs(shows_between(ODD, Clash(3, value)), False)

    def test_papers_of_other_classes(self):
        for task in (TASK, ODD, BLIND):
            paper = between(task)
            for other in (LikeBetween, LikeClash, Plan, Trap, Between, Clash):
                made = other(*paper.parts) if other not in (Plan, Trap) else other(paper.parts)
                self.assertIs(shows_between(task, made), type(paper) is other)

    def test_a_between_where_rows_clash_and_a_clash_where_none_do(self):
        for task in (ODD, BLIND):
            for pair in itertools.product(tables(len(task.sights[0])), repeat=2):
                self.assertIs(shows_between(task, Between(*pair)), False)
        for one, other in itertools.product(range(4), repeat=2):
            self.assertIs(shows_between(TASK, Clash(one, other)), False)

    def test_values_that_are_no_papers(self):
        for value in strange_values():
            for task in (TASK, ODD, BLIND):
                self.assertIs(shows_between(task, value), False)


class WrongArguments(Told):
    def test_errors_as_of_between(self):
        papers = [between(TASK), between(ODD), None, RaisesAlways()]
        for value in wrong_values() + [TASK.net]:
            for paper in papers:
                self.assert_raises(BadTask("task"), shows_between, value, paper)
        for text in ("a : x 01 a", "a : h ? a / k ? a / x 0110 h k"):
            for paper in papers:
                self.assert_raises(Misfit("holes"), shows_between, Task(Net.read(text), "x"), paper)

    def test_it_is_defined_in_this_file(self):
        self.assertEqual(module.shows_between.__module__, "holegates.check_single")


class ShortTimes(Told):
    def test_the_greatest_tasks(self):
        begin = time.process_time()
        net = greatest_net()
        for hole in net.holes[1:]:
            net = net.put(hole, [0, 1, 1, 0] * 16)
        for wish in net.wires[-4:]:
            task = Task(net, wish)
            self.assertIs(shows_between(task, between(task)), True)
        inputs = " ".join(NAMES_OF_INPUTS)
        task = Task(Net.read(f"{inputs} : h ? {inputs} / out 11 h"), "out")
        self.assertIs(shows_between(task, Between([0] * 64, [1] * 64)), True)
        self.assertIs(shows_between(task, Between([0] * 64, [1] * 63 + [0])), False)
        self.assertIs(shows_between(task, Between([0] * 19000, [1] * 64)), False)
        self.assertLess(time.process_time() - begin, 4)
