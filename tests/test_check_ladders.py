"""Checks of plans and traps: right ones, bent ones, and values of all kinds."""

import itertools
import random
import time

from holegates import check_ladders as module
from holegates.check_ladders import shows_plan
from holegates.errors import BadTask, Misfit
from holegates.ladders import Plan, Trap, plan
from holegates.nets import Net
from holegates.single import Between, Clash
from holegates.tasks import Task
from tests.support import (
    HUGE, NAMES_OF_INPUTS, Drawn, EqualsAll, RaisesAlways, Told, bent_signs, drawn_ladder, is_drawn_trap, nested_deep,
    nested_tasks, one_hole_tasks, strange_values, told_task, wrong_tables, wrong_values,
)

SOME = Task(Net.read("a b : h ? a b / k ? a / s 0110 h k / out 1001 s b"), "out")
FREE = Task(Net.read("a b : h ? a / k ? a b / out 11111001 h k b"), "out")
BLIND = Task(Net.read("a b : h ? a / k ? a / s 0110 h k / out 1001 s b"), "out")
TRAP = (0, (0, 1, 0), (0, 0, 1))
TASKS = nested_tasks(150, 61) + one_hole_tasks(30, 62)


class LikePlan(Plan):
    """A class below Plan: its papers are no Plans."""


class LikeTrap(Trap):
    """A class below Trap: its papers are no Traps."""


def all_trees(views, rows, holes):
    """All trees of these views and rows, for so many holes."""
    if not holes:
        return list(rows)
    behind = all_trees(views, rows, holes - 1)
    return list(itertools.product(views, behind, behind))


def bent_trees(tree):
    """Trees near to this one: another number, a truth, a text or a tree somewhere, sides exchanged, cut or longer."""
    if not isinstance(tree, tuple):
        others = [
            tree + 1, tree - 1, bool(tree), str(tree), float(tree), None, HUGE, -HUGE, [tree], (), (tree, tree, tree),
            (tree, tree), EqualsAll(), RaisesAlways(),
        ]
        return others
    view, zero, one = tree
    found = [(bent, zero, one) for bent in bent_trees(view)]
    found += [(view, bent, one) for bent in bent_trees(zero)] + [(view, zero, bent) for bent in bent_trees(one)]
    return found + [
        (view, one, zero), zero, one, view, (view, zero), (zero, one), (view, zero, one, one), (view, zero, one, 0), (),
        (view,), [tree], [tree, tree, tree], (view, tree, tree), {0: view, 1: zero, 2: one}, "012",
    ]


class RightPapers(Told):
    def test_what_plan_tells(self):
        for task in TASKS:
            self.assertIs(shows_plan(task, plan(task)), True)
            self.assertIs(shows_plan(value=plan(task), task=task), True)

    def test_just_the_right_fillings(self):
        many = 0
        for task in TASKS:
            drawn = Drawn(task)
            for filling in drawn.plain_fillings():
                expected = drawn.is_right(filling)
                many += expected
                self.assertIs(shows_plan(task, Plan(filling)), expected)
        self.assertGreater(many, 300)

    def test_plans_that_are_not_plain(self):
        chooser = random.Random(63)
        many = 0
        for task in TASKS:
            drawn = Drawn(task)
            for filling in list(drawn.plain_fillings())[:8] + drawn.right_fillings()[:8]:
                had = drawn.unknowns
                other = [
                    [sign if (hole, view) in had else chooser.randrange(2) for view, sign in enumerate(table)]
                    for hole, table in enumerate(filling)
                ]
                many += tuple(map(tuple, other)) != filling
                self.assertIs(shows_plan(task, Plan(other)), drawn.is_right(filling))
        self.assertGreater(many, 50)

    def test_just_the_traps_of_all_trees(self):
        many = 0
        tasks = [task for task in TASKS if len(task.holes) == 1 or (len(task.holes) == 2 and task.many == 2)]
        for task in [*tasks[:30], BLIND]:
            drawn, order = Drawn(task), drawn_ladder(task)
            views = range(max(view for _, view in drawn.unknowns) + 2)
            rows = range(drawn.many + 1) if len(order) == 1 else range(drawn.many)
            for tree in all_trees(views, rows, len(order)):
                expected = is_drawn_trap(drawn, order, tree)
                many += expected
                self.assertIs(shows_plan(task, Trap(tree)), expected)
        self.assertGreater(many, 50)

    def test_lists_for_tuples(self):
        self.assertIs(shows_plan(BLIND, Trap([0, [0, 1, 0], [0, 0, 1]])), True)
        self.assertIs(shows_plan(BLIND, Trap((1, [1, 3, 2], (1, 2, 3)))), True)
        self.assertIs(shows_plan(FREE, Plan([[1, 1], [0, 1, 0, 1]])), True)
        self.assertIs(shows_plan(FREE, Plan(([1, 1], (0, 1, 0, 1)))), True)

    def test_one_hole(self):
        task = told_task(2, [("h", ("a",))], lambda setting, choice: choice[0] == setting[1])
        for tree in all_trees(range(-1, 3), range(-1, 5), 1):
            self.assertIs(shows_plan(task, Trap(tree)), tree in ((0, 1, 0), (1, 3, 2)))

    def test_four_holes_without_sources(self):
        holes = [(name, ()) for name in "hkmn"]
        task = told_task(1, holes, lambda setting, choice: sum(choice) % 2 == setting[0])
        tree = self.tree_with(lambda signs: 1 - sum(signs) % 2)
        self.assertIs(shows_plan(task, Trap(tree)), True)
        self.assertIs(shows_plan(task, Trap(self.tree_with(lambda signs: 1))), False)
        for bent in bent_trees(tree):
            self.assertIs(shows_plan(task, Trap(bent)), False)

    def tree_with(self, end, signs=()):
        if len(signs) == 4:
            return end(signs)
        return (0, self.tree_with(end, (*signs, 0)), self.tree_with(end, (*signs, 1)))


class BentPapers(Told):
    def test_bent_trees(self):
        for tree in (TRAP, (1, (1, 3, 2), (1, 2, 3))):
            self.assertIs(shows_plan(BLIND, Trap(tree)), True)
            for bent in bent_trees(tree):
                with self.subTest(bent=bent):
                    self.assertIs(shows_plan(BLIND, Trap(bent)), False)

    def test_bent_trees_of_many_tasks(self):
        for task in TASKS[:80]:
            paper = plan(task)
            if not paper:
                drawn, order = Drawn(task), drawn_ladder(task)
                for bent in bent_trees(paper.tree):
                    self.assertIs(shows_plan(task, Trap(bent)), is_drawn_trap(drawn, order, bent))

    def test_truths_and_texts_for_numbers(self):
        for tree in (
            (False, (0, 1, 0), (0, 0, 1)), (0, (False, 1, 0), (0, 0, 1)), (0, (0, True, 0), (0, 0, 1)),
            (0, (0, 1, False), (0, 0, 1)), ("0", (0, 1, 0), (0, 0, 1)), (0, ("0", 1, 0), (0, 0, 1)),
            (0, (0, "1", 0), (0, 0, 1)), (0, "010", "001"), (0.0, (0, 1, 0), (0, 0, 1)), (0, (0, 1.0, 0), (0, 0, 1)),
        ):
            self.assertIs(shows_plan(BLIND, Trap(tree)), False)

    def test_views_that_do_not_go_along(self):
        wide = told_task(2, [("h", ("a",)), ("k", ("a", "b"))], lambda setting, choice: 0)
        for first, second, third in itertools.product(range(3), range(5), range(5)):
            tree = (first, (second, second, second), (third, third, third))
            expected = first < 2 and second < 4 and third < 4 and second // 2 == first == third // 2
            self.assertIs(shows_plan(wide, Trap(tree)), expected)

    def test_rows_that_have_not_all_views_named(self):
        wide = told_task(2, [("h", ("a",)), ("k", ("a", "b"))], lambda setting, choice: 0)
        for row in range(-1, 6):
            self.assertIs(shows_plan(wide, Trap((1, (2, row, 2), (3, 3, 3)))), row == 2)
            self.assertIs(shows_plan(wide, Trap((1, (2, 2, 2), (3, 3, row)))), row == 3)

    def test_the_order_of_the_ladder_counts(self):
        # In the net h stands first, but k is first on the ladder.
        task = told_task(2, [("h", ("a", "b")), ("k", ("a",))], lambda setting, choice: setting[1] == choice[1])
        self.assertIs(shows_plan(task, Trap((1, (3, 3, 3), (2, 2, 2)))), True)
        self.assertIs(shows_plan(task, Trap((1, (2, 2, 2), (3, 3, 3)))), False)
        self.assertIs(shows_plan(task, Trap((3, (1, 3, 3), (1, 3, 3)))), False)

    def test_bent_fillings(self):
        right = ((1, 1), (0, 1, 0, 1))
        self.assertIs(shows_plan(FREE, Plan(right)), True)
        for hole, table in enumerate(right):
            for bent in bent_signs(table) + wrong_tables() + [nested_deep(table, 20), RaisesAlways(), EqualsAll()]:
                other = [*right[:hole], bent, *right[hole + 1:]]
                drawn = Drawn(FREE)
                sizes = isinstance(bent, (list, tuple)) and len(bent) == len(table)
                expected = sizes and all(type(sign) is int and sign in (0, 1) for sign in bent)
                with self.subTest(bent=bent):
                    self.assertIs(shows_plan(FREE, Plan(other)), expected and drawn.is_right(other))
        lengths = (right[:1], right[1:], right[::-1], (*right, (0,)), [right], (), sum(right, ()))
        for bent in (*lengths, dict(enumerate(right))):
            self.assertIs(shows_plan(FREE, Plan(bent)), False)
        for bent in wrong_values() + [RaisesAlways(), EqualsAll(), nested_deep(right, 25)]:
            self.assertIs(shows_plan(FREE, Plan(bent)), False)

    def test_trees_of_all_kinds(self):
        for tree in wrong_values() + [RaisesAlways(), EqualsAll(), nested_deep(TRAP, 25), nested_deep(0, 29)]:
            for task in (BLIND, FREE, SOME):
                with self.subTest(tree=tree):
                    self.assertIs(shows_plan(task, Trap(tree)), False)

    def test_papers_of_other_classes(self):
        for task in (BLIND, FREE, SOME):
            paper = plan(task)
            for other in (LikePlan, LikeTrap, Plan, Trap):
                self.assertIs(shows_plan(task, other(*paper.parts)), type(paper) is other)
            for other in (Between, Clash):
                self.assertIs(shows_plan(task, other(paper.parts[0], paper.parts[0])), False)

    def test_a_trap_where_there_are_plans_and_a_plan_where_there_is_none(self):
        for tree in all_trees(range(2), range(4), 2):
            self.assertIs(shows_plan(FREE, Trap(tree)), False)
        for filling in Drawn(BLIND).plain_fillings():
            self.assertIs(shows_plan(BLIND, Plan(filling)), False)

    def test_values_that_are_no_papers(self):
        for value in strange_values():
            for task in (BLIND, FREE, SOME):
                self.assertIs(shows_plan(task, value), False)


class WrongArguments(Told):
    def test_errors_as_of_plan(self):
        papers = [plan(BLIND), plan(FREE), None, RaisesAlways()]
        for paper in papers:
            for value in wrong_values() + [FREE.net]:
                self.assert_raises(BadTask("task"), shows_plan, value, paper)
            self.assert_raises(Misfit("holes"), shows_plan, Task(Net.read("a : x 01 a"), "x"), paper)
            apart = Task(Net.read("a b : h ? a / k ? b / out 0110 h k"), "out")
            self.assert_raises(Misfit("sights"), shows_plan, apart, paper)

    def test_it_is_defined_in_this_file(self):
        self.assertEqual(module.shows_plan.__module__, "holegates.check_ladders")


class ShortTimes(Told):
    def test_the_greatest_tasks(self):
        begin = time.process_time()
        chooser = random.Random(64)
        inputs = " ".join(NAMES_OF_INPUTS)
        for often in (0.5, 0.8, 0.97):
            signs = ["".join(str(int(chooser.random() < often)) for _ in range(64)) for _ in range(3)]
            for sights in ((inputs,) * 4, (inputs, "a b c", "", "a"), ("",) * 4):
                holes = " / ".join(f"{name} ? {sight}".strip() for name, sight in zip("hkmn", sights))
                task = Task(Net.read(
                    f"{inputs} : {holes} / x {signs[0]} a b h k m n / y {signs[1]} c d h k m n"
                    f" / z {signs[2]} e f h k m n / out 01111111 x y z"
                ), "out")
                self.assertIs(shows_plan(task, plan(task)), True)
                self.assertIs(shows_plan(task, Plan([[0] * 5000] * 4)), False)
                self.assertIs(shows_plan(task, Trap([0] * 19000)), False)
        self.assertLess(time.process_time() - begin, 8)
