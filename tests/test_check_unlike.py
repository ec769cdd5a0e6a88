"""Checks of the papers about tasks whose holes see any wires: right ones, bent ones, and values of all kinds."""

import itertools
import random
import time

from holegates import check_unlike as module
from holegates.check_unlike import shows_settled
from holegates.errors import BadTask, Misfit, TooMany
from holegates.ladders import Plan, Trap
from holegates.nets import Net
from holegates.tasks import Task
from holegates.unlike import Refused, Settled, settle
from tests.support import (
    HUGE, NAMES_OF_INPUTS, Drawn, EqualsAll, RaisesAlways, Told, bent_signs, is_refusing, nested_deep,
    strange_values, told_task, unlike_tasks, wrong_tables, wrong_values,
)

HALVES = Task(Net.read("a b : h ? a / k ? b / x 0110 h k / w 0001 a b / out 1001 x w"), "out")
MIDDLE = Task(Net.read("a b c : h ? a b / k ? b c / out 1001 h k"), "out")
LOOSE = Task(Net.read("a b : h ? a / k ? b / out 01 h"), "out")
LOST = Task(Net.read("a : h ? a / out 00 h"), "out")
TREE = (0, 0, (1, 0, (1, 1, (0, 1, 3, 2), 1), 0), (1, 0, 0, (1, 1, 1, (0, 1, 2, 3))))
TASKS = unlike_tasks(160, 121)


class LikeSettled(Settled):
    """A class below Settled: its papers are no Settleds."""


class LikeRefused(Refused):
    """A class below Refused: its papers are no Refuseds."""


def bent_trees(tree):
    """Trees that differ from this one at one place."""
    if isinstance(tree, int):
        return [tree + 1, tree - 1, bool(tree), None, str(tree), float(tree), (tree,), (tree, tree), ()]
    hole, view, zero, one = tree
    found = [zero, one, (hole, view, one, zero), (view, hole, zero, one), (hole + 1, view, zero, one)]
    found += [(hole, view + 1, zero, one), (hole, -1, zero, one), (-1, view, zero, one), tree[:3], (*tree, one)]
    found += [(bool(hole), view, zero, one), (hole, bool(view), zero, one), (hole, view, tree, one)]
    found += [(hole, view, zero, tree), (hole, view, zero, None), (str(hole), view, zero, one), (zero, one)]
    found += [(hole, view, bent, one) for bent in bent_trees(zero)]
    return found + [(hole, view, zero, bent) for bent in bent_trees(one)]


def lists_of(tree):
    return [lists_of(part) for part in tree] if isinstance(tree, tuple) else tree


def any_tree(chooser, drawn, way=()):
    """A tree that names any unknowns and stops anywhere, at any row."""
    way = dict(way)
    left = [unknown for unknown in drawn.unknowns if unknown not in way]
    barring = [row for row in range(drawn.many) if all(
        any(way.get(drawn.unknown(hole, row), choice[hole]) != choice[hole] for hole in drawn.holes)
        for choice in drawn.right[row]
    )]
    if barring and chooser.random() < 0.9:
        return chooser.choice(barring)
    if not left or chooser.random() < 0.02:
        return chooser.randrange(drawn.many)
    unknown = chooser.choice(left)
    return (*unknown, *[any_tree(chooser, drawn, {**way, unknown: sign}) for sign in (0, 1)])


class RightPapers(Told):
    def test_what_settle_tells(self):
        for task in TASKS:
            self.assertIs(shows_settled(task, settle(task)), True)
            self.assertIs(shows_settled(value=settle(task), task=task), True)

    def test_just_the_right_fillings(self):
        found = [0, 0]
        for task in TASKS:
            drawn = Drawn(task)
            for filling in itertools.islice(drawn.plain_fillings(), 64):
                right = drawn.is_right(filling)
                found[right] += 1
                self.assertIs(shows_settled(task, Settled(filling)), right)
                self.assertIs(shows_settled(task, Settled([list(table) for table in filling])), right)
        self.assertGreater(min(found), 300)

    def test_fillings_that_say_anything_at_views_that_no_row_has(self):
        task = Task(Net.read("a : n 10 a / h ? a n / k ? n / x 0111 h k / out 0001 x h"), "out")
        for first, last in itertools.product((0, 1), repeat=2):
            self.assertIs(shows_settled(task, Settled([[first, 1, 1, last], [0, 1]])), True)
            self.assertIs(shows_settled(task, Settled([[first, 1, 0, last], [0, 1]])), False)

    def test_trees_of_all_kinds(self):
        chooser = random.Random(122)
        found = [0, 0]
        for task in TASKS:
            drawn = Drawn(task)
            for _ in range(12):
                tree = any_tree(chooser, drawn)
                right = is_refusing(drawn, tree)
                found[right] += 1
                self.assertIs(shows_settled(task, Refused(tree)), right)
                self.assertIs(shows_settled(task, Refused(lists_of(tree))), right)
        self.assertGreater(min(found), 200)

    def test_trees_that_name_unknowns_that_no_row_asks(self):
        net = Net.read("a b : h ? a / k ? b / m ? a / x 0110 h k / w 0001 a b / out 1001 x w")
        task = Task(net, "out")
        self.assertIs(shows_settled(task, Refused(TREE)), True)
        self.assertIs(shows_settled(task, Refused((2, 1, TREE, (2, 0, TREE, TREE)))), True)
        self.assertIs(shows_settled(task, Refused((2, 1, TREE, (2, 1, TREE, TREE)))), False)
        self.assertIs(shows_settled(task, Refused((2, 2, TREE, TREE))), False)
        lost = told_task(1, [("h", ("a",)), ("k", ())], lambda setting, choice: setting[0])
        self.assertIs(shows_settled(lost, Refused((0, 1, 0, (1, 0, 0, 0)))), True)

    def test_lost_rows(self):
        for row in (0, 1):
            self.assertIs(shows_settled(LOST, Refused(row)), True)
        for row in (2, -1, HUGE, -HUGE):
            self.assertIs(shows_settled(LOST, Refused(row)), False)


class BentPapers(Told):
    def test_bent_fillings(self):
        right = ((0, 0, 1, 1), (0, 1, 0, 1))
        task = Task(Net.read("a b c : h ? a b / k ? c a / x 0110 h k / out 1001 x c"), "out")
        self.assertIs(shows_settled(task, Settled(right)), False)
        right = ((0, 0, 1, 1), (0, 1, 1, 0))
        self.assertIs(shows_settled(task, Settled(right)), True)
        for bent in bent_signs(right[0]) + wrong_tables() + [RaisesAlways(), EqualsAll()]:
            with self.subTest(bent=bent):
                self.assertIs(shows_settled(task, Settled((bent, right[1]))), False)
                self.assertIs(shows_settled(task, Settled([right[0], bent])), False)
        for bent in (right[:1], (*right, right[0]), right[::-1], [right], (), None, 0, "ab", nested_deep(right, 24)):
            with self.subTest(bent=bent):
                self.assertIs(shows_settled(task, Settled(bent)), False)

    def test_truths_for_signs(self):
        self.assertIs(shows_settled(LOOSE, Settled([[1, 1], [0, 0]])), True)
        for bent in ([[True, 1], [0, 0]], [[1, 1], [False, 0]], [(True, True), (False, False)]):
            self.assertIs(shows_settled(LOOSE, Settled(bent)), False)

    def test_bent_trees(self):
        many = 0
        for task in (HALVES, LOST, *[task for task in TASKS if not settle(task)][:30]):
            drawn = Drawn(task)
            for bent in bent_trees(settle(task).tree)[:400]:
                many += 1
                with self.subTest(task=str(task.net), bent=bent):
                    self.assertIs(shows_settled(task, Refused(bent)), is_refusing(drawn, bent))
        self.assertGreater(many, 500)

    def test_truths_for_rows_and_numbers(self):
        for tree in (False, True, 0.0, "0", (False, 0, 0, 0), (0, False, 0, 0), (0, 0, False, 0), (0, 0, 0, False)):
            self.assertIs(shows_settled(LOST, Refused(tree)), False)
        self.assertIs(shows_settled(LOST, Refused((0, 0, 0, 0))), True)

    def test_rows_and_unknowns_exchanged(self):
        for tree in ((0, 0), (0, 0, 0), ((0, 0), 0, 0), (0, (0, 0), 0), (0, 0, (0, 0)), ((0, 0), (0, 0), 0, 0)):
            self.assertIs(shows_settled(LOST, Refused(tree)), False)
        self.assertIs(shows_settled(HALVES, Refused((0, 0, (0, 0, (0, 1, 3, 2), 1), 0))), False)

    def test_trees_of_strange_values(self):
        for value in wrong_values() + [HUGE, -HUGE, RaisesAlways(), EqualsAll(), nested_deep(0, 27), {0: 0}]:
            if type(value) is int and value in (0, 1):
                continue
            for tree in (value, (value, 0, 0, 0), (0, value, 0, 0), (0, 0, value, 0), (0, 0, 0, value)):
                with self.subTest(tree=tree):
                    self.assertIs(shows_settled(LOST, Refused(tree)), False)

    def test_papers_of_other_classes(self):
        for task in (HALVES, MIDDLE, LOST, LOOSE):
            paper = settle(task)
            for made in (LikeSettled, LikeRefused, Plan, Trap, Settled, Refused):
                self.assertIs(shows_settled(task, made(*paper.parts)), type(paper) is made)

    def test_values_that_are_no_papers(self):
        for value in strange_values() + [TREE, settle(HALVES).tree, settle(MIDDLE).filling]:
            for task in (HALVES, MIDDLE, LOST, LOOSE):
                self.assertIs(shows_settled(task, value), False)


class WrongArguments(Told):
    def test_errors_as_of_settle(self):
        papers = [settle(HALVES), settle(MIDDLE), None, RaisesAlways()]
        wide = Task(Net.read("a b c d : h ? a b c d / out 01 h"), "out")
        for paper in papers:
            for value in wrong_values() + [HALVES.net]:
                self.assert_raises(BadTask("task"), shows_settled, value, paper)
            self.assert_raises(Misfit("holes"), shows_settled, Task(Net.read("a b c d : x 01 a"), "x"), paper)
            self.assert_raises(TooMany("unknowns", 12), shows_settled, wide, paper)

    def test_it_is_defined_in_this_file(self):
        self.assertEqual(module.shows_settled.__module__, "holegates.check_unlike")


class ShortTimes(Told):
    def test_the_greatest_trees(self):
        begin = time.process_time()
        # Three holes see two, two and one inputs; a tree that names all their unknowns, and then some of a fourth one.
        names = " ".join(NAMES_OF_INPUTS)
        ones = "0" * 63 + "1"
        task = Task(Net.read(
            f"{names} : h ? a b / k ? c d / m ? e f / n ? {names} / w {ones} {names} / x 01101001 h k m / out 1001 x w"
        ), "out")
        drawn = Drawn(task)

        def named(unknowns, way):
            if unknowns:
                return (*unknowns[0], *[named(unknowns[1:], {**way, unknowns[0]: sign}) for sign in (0, 1)])
            chosen = [tuple(way[drawn.unknown(hole, row)] for hole in range(3)) for row in range(64)]
            return next(row for row in range(64) if sum(chosen[row]) % 2 != (row == 63))

        tree = named([(hole, view) for hole in range(3) for view in range(4)], {})
        self.assertIs(shows_settled(task, Refused(tree)), True)
        self.assertIs(shows_settled(task, Refused((*tree[:2], tree[3], tree[2]))), False)
        deep = settle(task).tree
        for view in range(20):
            deep = (3, view, deep, deep) if view < 2 else (3, view, 64, deep)
        self.assertIs(shows_settled(task, Refused(deep)), False)
        self.assertLess(time.process_time() - begin, 5)
