"""Tasks: views, right choices, fillings, and the facts about them."""

import itertools
import random
import time

from holegates import tasks as module
from holegates.errors import BadFilling, BadNet, BadTable, Misfit, NoHole, NoRow, NoWire
from holegates.nets import Net
from holegates.tables import sign_at
from holegates.tasks import Task
from holegates.wires import run
from tests.support import (
    NAMES_OF_INPUTS, EqualsAll, Told, drawn_right, drawn_view, greatest_net, no_names, settings, some_filling,
    some_tables, some_tasks, tables, wrong_numbers, wrong_tables, wrong_values,
)

NET = Net.read("a b : n 10 a / h ? a n / k ? b / x 0110 h k / out 0111 x a")
TASK = Task(NET, "out")
SOME = [[0, 1, 0, 0], [0, 0]]


TASKS = some_tasks(150, 11)


def drawn_choice(task, filling, row):
    return tuple(table[drawn_view(task, hole, row)] for hole, table in enumerate(filling))


def drawn_unknowns(task):
    return sorted({(hole, drawn_view(task, hole, row)) for hole in range(len(task.holes)) for row in range(task.many)})


def all_fillings(task):
    return itertools.product(*[tables(len(sight)) for sight in task.sights])


def few_fillings(task, chooser):
    return [some_filling(chooser, task.net) for _ in range(4)] + [
        tuple((sign,) * 2 ** len(sight) for sight in task.sights) for sign in (0, 1)
    ]


def wrong_fillings():
    """What is no filling of TASK, its tables having two places and one."""
    right = [[0, 1, 0, 0], (0, 1)]
    return wrong_values() + [
        "01", {0: [0, 0, 0, 0], 1: [0, 0]}, range(2), [right[0]], [right[0], right[1], [0]], right[::-1],
        [[0, 1], [0, 1]],
        [[0, 0, 0, 0], [0, 0, 0, 0]], [[0] * 8, [0, 0]], [[0] * 4, [0]], [right, right], [[right[0]], [right[1]]],
        [right[0], None],
        [None, right[1]], [0, 1, 0, 0, 0, 1], ["0100", "01"], [right[0], "01"], iter(right),
    ] + [[right[0], value] for value in wrong_tables()] + [
        [[0, 1, 0, item], [0, 0]] for item in (2, -1, True, False, None, "0", [0])
    ]


class WhatTasksAre(Told):
    def test_the_class_and_its_methods_are_defined_in_this_file(self):
        self.assertEqual(module.Task.__module__, "holegates.tasks")
        for name in (
            "__init__", "__eq__", "view", "right_choices", "unknowns", "choice", "is_right", "first_wrong", "plain",
            "filled",
            "with_hole",
        ):
            self.assertIn(name, vars(Task))

    def test_attributes(self):
        for task in (TASK, Task(wish="out", net=NET)):
            self.assertIs(task.net == NET, True)
            self.assert_same((task.wish, task.many, task.holes), ("out", 4, ("h", "k")))
            self.assert_same(task.sights, (("a", "n"), ("b",)))
        for task in TASKS:
            self.assertEqual(task.many, 2 ** len(task.net.inputs))
            self.assertEqual(task.holes, task.net.holes)
            self.assert_same(task.sights, tuple(sources for _, sources, table in task.net.gates if table is None))

    def test_any_wire_may_be_the_wish(self):
        for name in NET.wires:
            self.assertEqual(Task(NET, name).wish, name)

    def test_a_net_without_holes(self):
        task = Task(Net.read("a b : x 0111 a b"), "x")
        self.assert_same((task.many, task.holes, task.sights, task.unknowns()), (4, (), (), ()))
        self.assert_same([task.right_choices(row) for row in range(4)], [(), ((),), ((),), ((),)])
        self.assert_same((task.choice([], 0), task.plain([])), ((), ()))
        self.assert_same((task.is_right(()), task.first_wrong([])), (False, 0))
        self.assertEqual(task.filled([]), task.net)
        self.assert_raises(NoHole(0), task.view, 0, 0)
        self.assert_raises(BadFilling("filling"), task.is_right, [[0]])

    def test_holes_without_sources_and_with_six(self):
        task = Task(Net.read("a b c d e f : h ? / k ? f e d c b a / x 1001 h k"), "x")
        self.assertEqual(task.many, 64)
        self.assertEqual([task.view(0, row) for row in range(64)], [0] * 64)
        self.assertEqual([task.view(1, row) for row in (0, 1, 2, 32, 63)], [0, 32, 16, 1, 63])
        self.assertEqual(task.unknowns(), ((0, 0), *[(1, view) for view in range(64)]))
        self.assertIs(task.is_right([[1], [1] * 64]), True)
        self.assertEqual(task.first_wrong([[1], [1] * 32 + [0] + [1] * 31]), 1)

    def test_what_is_no_net_or_wire(self):
        for value in wrong_values() + [TASK, str(NET)]:
            with self.subTest(value=value):
                self.assert_raises(BadNet("net"), Task, value, "out")
                self.assert_raises(BadNet("net"), Task, value, None)
        for value in no_names() + ["z", "ou"]:
            with self.subTest(value=value):
                self.assert_raises(NoWire(value), Task, NET, value)


class Equality(Told):
    def assert_unlike(self, one, other):
        self.assertIs(one == other, False)
        self.assertIs(other == one, False)
        self.assertIs(one != other, True)

    def test_equal_tasks(self):
        for task in TASKS:
            other = Task(Net.read(str(task.net)), task.wish)
            self.assertIs(task == other, True)
            self.assertIs(task != other, False)

    def test_another_wish_or_net(self):
        for name in set(NET.wires) - {"out"}:
            self.assert_unlike(TASK, Task(NET, name))
        for old, new in (
            ("10 a", "01 a"), ("h ? a n", "h ? n a"), ("h ? a n", "h ? a"), ("0110 h k", "0110 k h"),
            ("k ? b", "k 01 b"),
            ("a b :", "b a :"), ("/ x", "/ y 1 / x"), ("n 10 a / h ? a n / k ? b", "n 10 a / k ? b / h ? a n"),
        ):
            self.assert_unlike(TASK, Task(Net.read(str(NET).replace(old, new)), "out"))
        self.assert_unlike(TASK, Task(Net.read(str(NET).replace("out", "end")), "end"))

    def test_values_of_other_classes(self):
        class Below(Task):
            pass

        for value in wrong_values() + [NET, (NET, "out"), "out", Below(NET, "out")]:
            with self.subTest(value=value):
                self.assert_unlike(TASK, value)
        self.assertIs(TASK == EqualsAll(), False)


class Views(Told):
    def test_as_the_drawing_tells(self):
        for task in TASKS:
            for hole, row in itertools.product(range(len(task.holes)), range(task.many)):
                self.assert_same(task.view(hole, row), drawn_view(task, hole, row))
                self.assert_same(task.view(row=row, hole=hole), drawn_view(task, hole, row))
            self.assert_same(task.unknowns(), tuple(drawn_unknowns(task)))

    def test_wrong_arguments(self):
        for value in wrong_numbers(0, 1):
            with self.subTest(value=value):
                self.assert_raises(NoHole(value), TASK.view, value, 0)
                self.assert_raises(NoHole(value), TASK.view, value, None)
        self.assert_raises(NoHole("h"), TASK.view, "h", 0)
        for value in wrong_numbers(0, 3):
            with self.subTest(value=value):
                self.assert_raises(NoRow(value), TASK.view, 1, value)
                self.assert_raises(NoRow(value), TASK.right_choices, value)


class RightChoices(Told):
    def test_as_the_drawing_tells(self):
        for task in TASKS:
            for row in range(task.many):
                expected = tuple(choice for choice in settings(len(task.holes)) if drawn_right(task, choice, row))
                self.assert_same(task.right_choices(row), expected)
                self.assert_same(task.right_choices(row=row), expected)
                for choice in settings(len(task.holes)):
                    signs = dict(zip(task.net.wires, run(task.net, row, choice)))
                    self.assertEqual(choice in expected, signs[task.wish] == 1)

    def test_four_holes(self):
        task = Task(Net.read("a : h ? / k ? a / m ? / n ? / x 0110 h k / y 0110 x m / out 0110 y n"), "out")
        for row in (0, 1):
            self.assert_same(task.right_choices(row), tuple(choice for choice in settings(4) if sum(choice) % 2))

    def test_lost_rows_and_rows_where_all_is_right(self):
        task = Task(Net.read("a : h ? a / x 0111 a h / y 0001 a h"), "a")
        self.assert_same((task.right_choices(0), task.right_choices(1)), ((), ((0,), (1,))))


class Fillings(Told):
    def check(self, task, filling):
        choices = [drawn_choice(task, filling, row) for row in range(task.many)]
        wrong = [row for row in range(task.many) if not drawn_right(task, choices[row], row)]
        lists = [list(table) for table in filling]
        for passed in (filling, lists, tuple(lists), list(filling)):
            self.assert_same([task.choice(passed, row) for row in range(task.many)], choices)
            self.assert_same(task.is_right(passed), not wrong)
            self.assert_same(task.first_wrong(passed), wrong[0] if wrong else None)
            had = drawn_unknowns(task)
            plain = tuple(
                tuple(sign if (hole, view) in had else 0 for view, sign in enumerate(table))
                for hole, table in enumerate(filling)
            )
            self.assert_same(task.plain(passed), plain)
            whole = task.filled(passed)
            told = dict(zip(task.holes, filling))
            gates = tuple((name, sources, told.get(name, table)) for name, sources, table in task.net.gates)
            self.assert_same((whole.inputs, whole.gates, whole.holes), (task.net.inputs, gates, ()))

    def test_as_the_drawing_tells(self):
        chooser = random.Random(12)
        for task in TASKS:
            for filling in few_fillings(task, chooser):
                self.check(task, filling)

    def test_all_fillings_of_one_task(self):
        for filling in all_fillings(TASK):
            self.check(TASK, filling)

    def test_by_name(self):
        self.assertEqual(TASK.choice(row=1, filling=SOME), (1, 0))
        self.assertIs(TASK.is_right(filling=SOME), True)
        self.assertIsNone(TASK.first_wrong(filling=SOME))
        self.assertEqual(TASK.plain(filling=SOME), ((0, 1, 0, 0), (0, 0)))
        self.assertEqual(TASK.filled(filling=SOME), TASK.filled(SOME))

    def test_what_is_no_filling(self):
        for value in wrong_fillings():
            with self.subTest(value=value):
                for call in (TASK.is_right, TASK.first_wrong, TASK.plain, TASK.filled):
                    self.assert_raises(BadFilling("filling"), call, value)
                self.assert_raises(BadFilling("filling"), TASK.choice, value, 0)
                self.assert_raises(BadFilling("filling"), TASK.choice, value, None)

    def test_rows_that_are_none(self):
        for value in wrong_numbers(0, 3):
            with self.subTest(value=value):
                self.assert_raises(NoRow(value), TASK.choice, SOME, value)


class HolesFilled(Told):
    def test_one_hole(self):
        for at, task in enumerate(TASKS):
            for hole, name in enumerate(task.holes):
                for table in some_tables(len(task.sights[hole]), 3, at):
                    found = task.with_hole(hole, table)
                    self.assertEqual(found, Task(task.net.put(name, table), task.wish))
                    self.assertEqual(task.with_hole(table=list(table), hole=hole), found)
                    self.assertEqual(found.holes, task.holes[:hole] + task.holes[hole + 1:])
                    self.assertEqual(found.sights, task.sights[:hole] + task.sights[hole + 1:])
                    for row in range(task.many):
                        sign = table[task.view(hole, row)]
                        fitting = [choice for choice in task.right_choices(row) if choice[hole] == sign]
                        others = tuple(choice[:hole] + choice[hole + 1:] for choice in fitting)
                        self.assertEqual(found.right_choices(row), others)

    def test_wrong_arguments(self):
        for value in wrong_numbers(0, 1):
            with self.subTest(value=value):
                self.assert_raises(NoHole(value), TASK.with_hole, value, [0, 0])
                self.assert_raises(NoHole(value), TASK.with_hole, value, None)
        for value in wrong_tables():
            with self.subTest(value=value):
                self.assert_raises(BadTable("table"), TASK.with_hole, 1, value)
        for hole, right in ((0, 2), (1, 1)):
            for places in set(range(9)) - {right}:
                self.assert_raises(Misfit("places"), TASK.with_hole, hole, [0] * 2 ** places)


class Facts(Told):
    def test_a_filling_is_right_if_the_wish_is_1_in_the_filled_net(self):
        chooser = random.Random(13)
        for task in TASKS:
            for filling in few_fillings(task, chooser):
                whole = Task(task.filled(filling), task.wish)
                wrong = [row for row in range(task.many) if not whole.right_choices(row)]
                self.assertEqual(task.is_right(filling), whole.is_right(()))
                self.assertEqual(task.first_wrong(filling), wrong[0] if wrong else None)
                for row in range(task.many):
                    self.assertEqual(run(task.net, row, task.choice(filling, row)), run(whole.net, row, ()))

    def test_views_that_no_row_has_change_nothing(self):
        chooser = random.Random(14)
        for task in TASKS:
            had = task.unknowns()
            for filling in few_fillings(task, chooser):
                turned = tuple(
                    tuple(sign if (hole, view) in had else 1 - sign for view, sign in enumerate(table))
                    for hole, table in enumerate(filling)
                )
                plain = task.plain(filling)
                self.assertEqual(task.plain(turned), plain)
                self.assertEqual(task.plain(plain), plain)
                for other in (turned, plain):
                    self.assertEqual(task.first_wrong(other), task.first_wrong(filling))
                    for row in range(task.many):
                        self.assertEqual(task.choice(other, row), task.choice(filling, row))

    def test_holes_filled_one_by_one_in_any_order(self):
        chooser = random.Random(15)
        for task in TASKS:
            for filling in few_fillings(task, chooser)[:3]:
                for order in itertools.permutations(task.holes):
                    left, tables_left = task, dict(zip(task.holes, filling))
                    for name in order:
                        left = left.with_hole(left.holes.index(name), tables_left.pop(name))
                        others = [tables_left[hole] for hole in left.holes]
                        self.assertEqual(left.first_wrong(others), task.first_wrong(filling))
                    self.assertEqual(left.net, task.filled(filling))

    def test_choices_are_the_signs_at_the_settings_of_the_sources(self):
        chooser = random.Random(16)
        for task in TASKS:
            filling = some_filling(chooser, task.net)
            whole = task.filled(filling)
            for row in range(task.many):
                signs = dict(zip(whole.wires, run(whole, row, ())))
                self.assertEqual(task.choice(filling, row), tuple(
                    sign_at(table, [signs[name] for name in sight]) for table, sight in zip(filling, task.sights)
                ))


class NothingIsChanged(Told):
    def test_what_is_passed_stays_and_is_copied(self):
        filling, table = [[0, 1, 0, 0], [0, 0]], [0, 1]
        text = str(TASK.net)
        plain, whole, left = TASK.plain(filling), TASK.filled(filling), TASK.with_hole(1, table)
        TASK.choice(filling, 0), TASK.is_right(filling), TASK.first_wrong(filling)
        self.assert_same((filling, table), ([[0, 1, 0, 0], [0, 0]], [0, 1]))
        filling[0][1] = 0
        filling[1] = [1, 1]
        table[0] = 1
        self.assert_same(plain, ((0, 1, 0, 0), (0, 0)))
        self.assertEqual(str(whole), "a b : n 10 a / h 0100 a n / k 00 b / x 0110 h k / out 0111 x a")
        self.assertEqual(str(left.net), "a b : n 10 a / h ? a n / k 01 b / x 0110 h k / out 0111 x a")
        for value in wrong_fillings():
            self.assertRaises(ValueError, TASK.plain, value)
        self.assertRaises(ValueError, TASK.with_hole, 0, [0, 1])
        self.assertEqual((str(TASK.net), TASK.holes, TASK.wish), (text, ("h", "k"), "out"))

    def test_a_list_of_gates_changed_afterwards(self):
        gates = [["h", ["a"], None], ["x", ["h", "a"], [1, 0, 0, 1]]]
        task = Task(Net(["a"], gates), "x")
        gates[1][2][0] = 0
        gates[0][1].clear()
        self.assert_same([task.right_choices(row) for row in (0, 1)], [((0,),), ((1,),)])


class ShortTimes(Told):
    def test_the_greatest_task(self):
        begin = time.process_time()
        net = greatest_net()
        for wish in net.wires[-4:]:
            task = Task(net, wish)
            for row in range(64):
                task.right_choices(row)
            filling = [[0, 1] * 32] * 4
            task.unknowns()
            for call in (task.first_wrong, task.is_right, task.plain, task.filled):
                call(filling)
            for hole in range(4):
                task.with_hole(hole, filling[0])
                [task.view(hole, row) for row in range(64)]
            [task.choice(filling, row) for row in range(64)]
        self.assertLess(time.process_time() - begin, 4)

    def test_six_inputs_and_no_gate(self):
        task = Task(Net(NAMES_OF_INPUTS, []), "a")
        self.assertEqual((task.many, task.first_wrong(())), (64, 0))
