"""Tasks with nested sights: plans and traps against trying all, how many plans there are, and the facts."""

import itertools
import random
import time

from holegates import ladders as module
from holegates.errors import BadTask, Misfit
from holegates.ladders import Plan, Trap, how_many, ladder, plan
from holegates.nets import Net
from holegates.papers import Denial, Paper
from holegates.single import Between, between
from holegates import single
from holegates.tasks import Task
from tests.support import (
    NAMES_OF_INPUTS, Drawn, Told, drawn_ladder, ends_of, greatest_net, is_drawn_trap, nested_tasks, one_hole_tasks,
    settings, some_tasks, told_task, wrong_values,
)

SOME = Task(Net.read("a b : h ? a b / k ? a / s 0110 h k / out 1001 s b"), "out")
FREE = Task(Net.read("a b : h ? a / k ? a b / out 11111001 h k b"), "out")
BLIND = Task(Net.read("a b : h ? a / k ? a / s 0110 h k / out 1001 s b"), "out")
NO_HOLE = Task(Net.read("a : x 01 a"), "x")
APART = Task(Net.read("a b : h ? a / k ? b / out 0110 h k"), "out")

DRAWN = [task for task in some_tasks(400, 51, most_holes=4) if task.holes and drawn_ladder(task) is not None]
TASKS = [
    *nested_tasks(260, 52), *[task for task in DRAWN if len(task.unknowns()) < 9], *one_hole_tasks(40, 53),
]
CALLS = (ladder, plan, how_many)


class Papers(Told):
    def test_plan(self):
        for paper in (Plan([[0, 1], (1,)]), Plan(filling=([0, 1], [1]))):
            self.assertIsInstance(paper, Paper)
            self.assertNotIsInstance(paper, Denial)
            self.assert_same((paper.word, paper.parts), ("plan", (((0, 1), (1,)),)))
            self.assert_same((paper.filling, bool(paper)), (((0, 1), (1,)), True))
        self.assertEqual(Plan([[0]]), Plan(((0,),)))
        self.assertNotEqual(Plan(((0,),)), Plan(((1,),)))

    def test_trap(self):
        for paper in (Trap([0, [0, 1, 0], (0, 0, 1)]), Trap(tree=(0, (0, 1, 0), [0, 0, 1]))):
            self.assertIsInstance(paper, Denial)
            self.assert_same((paper.word, paper.parts), ("trap", ((0, (0, 1, 0), (0, 0, 1)),)))
            self.assert_same((paper.tree, bool(paper)), ((0, (0, 1, 0), (0, 0, 1)), False))
        self.assertEqual(Trap([0, 1, 2]), Trap((0, 1, 2)))
        self.assertNotEqual(Trap((0, 1, 2)), Plan((0, 1, 2)))

    def test_any_values(self):
        for value in wrong_values():
            if not isinstance(value, list):
                self.assertIs(Plan(value).filling, value)
                self.assertIs(Trap(value).tree, value)

    def test_they_are_defined_in_this_file(self):
        for name in ("Plan", "Trap", "ladder", "plan", "how_many"):
            self.assertEqual(getattr(module, name).__module__, "holegates.ladders")


class Ladders(Told):
    def test_as_the_drawing_tells(self):
        unlike = set()
        for task in TASKS:
            expected = tuple(drawn_ladder(task))
            unlike.add(expected)
            self.assert_same(ladder(task), expected)
            self.assert_same(ladder(task=task), expected)
        self.assertGreater(len(unlike), 15)

    def test_fewer_sources_ahead_and_the_one_ahead_in_the_net_of_as_many(self):
        for text, expected in (
            ("a b : h ? / k ? / m ? / n ?", (0, 1, 2, 3)),
            ("a b : h ? a b / k ? b / m ? / n ? a b", (2, 1, 0, 3)),
            ("a b : h ? b a / k ? a b / m ? a / n ? a", (2, 3, 0, 1)),
            ("a b c d e f : h ? a b c d e f / k ? f e d c b a / m ? c / n ? b c", (2, 3, 0, 1)),
            ("a : h ? a", (0,)), ("a : h ?", (0,)),
        ):
            self.assert_same(ladder(Task(Net.read(text), "a")), expected)

    def test_sights_by_names_not_by_what_they_tell(self):
        # n tells as much as a, but it is another wire; x is always 0.
        for text in (
            "a b : n 10 a / h ? a / k ? n", "a b : n 10 a / h ? a / k ? n b", "a b : x 0 / h ? x / k ? a b",
            "a b : h ? a / k ? b", "a b c : h ? a b / k ? b c / m ?", "a b c : h ? c / k ? a b / m ? a b c",
            "a b c : h ? / k ? a / m ? a b / n ? a c",
        ):
            for call in CALLS:
                self.assert_raises(Misfit("sights"), call, Task(Net.read(text), "a"))
        self.assert_same(ladder(Task(Net.read("a b : n 10 a / x 0 / h ? n a x / k ? x n"), "a")), (1, 0))

    def test_sights_that_are_not_nested(self):
        many = 0
        for task in some_tasks(400, 51, most_holes=4):
            if task.holes and drawn_ladder(task) is None:
                many += 1
                for call in CALLS:
                    self.assert_raises(Misfit("sights"), call, task)
        self.assertGreater(many, 30)


class AgainstTryingAll(Told):
    def test_plans_and_traps(self):
        found = {"plan": 0, "trap": 0}
        for task in TASKS:
            drawn = Drawn(task)
            right = drawn.right_fillings()
            paper = plan(task)
            found[paper.word] += 1
            self.assertIs(type(paper), Plan if right else Trap)
            if right:
                self.assertIn(paper.filling, right)
                self.assert_same(task.plain(paper.filling), paper.filling)
                self.assertIs(task.is_right(paper.filling), True)
            else:
                self.assertTrue(is_drawn_trap(drawn, drawn_ladder(task), paper.tree))
                self.assertEqual(len(ends_of(paper.tree)), 2 ** len(task.holes))
            self.assertEqual(plan(task=task), paper)
        self.assertGreater(min(found.values()), 100)

    def test_how_many(self):
        told = set()
        for task in TASKS:
            many = len(Drawn(task).right_fillings())
            told.add(many)
            self.assert_same(how_many(task), many)
            self.assert_same(how_many(task=task), many)
        self.assertGreater(len(told), 15)

    def test_a_trap_bars_all_fillings(self):
        for task in TASKS:
            paper = plan(task)
            if not paper:
                drawn = Drawn(task)
                for filling in drawn.plain_fillings():
                    row = self.end(task, paper.tree, filling)
                    self.assertNotIn(drawn.choice(filling, row), drawn.right[row])

    def end(self, task, tree, filling):
        for hole in ladder(task):
            view, *ways = tree
            tree = ways[filling[hole][view]]
        return tree


class Edges(Told):
    def test_a_hole_without_sources(self):
        for right, many in ((((0,), (1,)), 2), (((1,),), 1), ((), 0)):
            task = told_task(2, [("h", ())], lambda setting, choice, right=right: choice in right)
            self.assertEqual(how_many(task), many)
            self.assertIs(bool(plan(task)), many > 0)
        self.assertEqual(plan(told_task(2, [("h", ())], lambda setting, choice: choice[0])), Plan([[1]]))

    def test_a_lost_row(self):
        task = told_task(2, [("h", ("a", "b")), ("k", ("a",))], lambda setting, choice: setting != (1, 0))
        self.assertEqual(plan(task), Trap((1, (2, (2), (2)), (2, (2), (2)))))
        self.assertEqual(how_many(task), 0)

    def test_a_row_0_at_the_ends(self):
        self.assertEqual(plan(told_task(1, [("h", ("a",))], lambda setting, choice: setting[0])), Trap((0, 0, 0)))

    def test_views_that_no_row_has(self):
        task = Task(Net.read("a : n 10 a / h ? a n / k ? n a / x 0111 h k / out 0001 x h"), "out")
        self.assertEqual(plan(task).filling[0], (0, 1, 1, 0))
        self.assertEqual([plan(task).filling[1][view] for view in (0, 3)], [0, 0])
        self.assertEqual(how_many(task), 4)

    def test_wishes_that_are_inputs_holes_and_sure_gates(self):
        net = Net.read("a : n 11 a / h ? a / k ?")
        self.assertEqual([how_many(Task(net, wish)) for wish in ("a", "n", "h", "k")], [0, 8, 2, 4])

    def test_four_holes_in_any_order(self):
        # Each hole is to be what the one ahead on the ladder is, turned where its own new source is 1; n is not m.
        sights = {"h": (), "k": ("a",), "m": ("a", "b"), "n": ("b", "a")}
        for order in itertools.permutations(sights):
            def is_right(setting, choice, order=order):
                told = dict(zip(order, choice))
                follows = told["k"] == told["h"] ^ setting[0] and told["m"] == told["k"] ^ setting[1]
                return follows and told["n"] != told["m"]

            task = told_task(2, [(name, sights[name]) for name in order], is_right)
            self.assertEqual(ladder(task)[:2], (order.index("h"), order.index("k")))
            self.assertEqual(ladder(task)[2:], tuple(sorted([order.index("m"), order.index("n")])))
            self.assertEqual(how_many(task), 2)
            self.assertIs(task.is_right(plan(task).filling), True)
            sees_less = told_task(2, [(name, sights[name] if name != "m" else ("a",)) for name in order], is_right)
            self.assertIs(type(plan(sees_less)), Trap)
            self.assertTrue(is_drawn_trap(Drawn(sees_less), drawn_ladder(sees_less), plan(sees_less).tree))

    def test_looking_ahead(self):
        # h must be 0 where k, which sees b, can not follow it.
        holes = [("h", ("a",)), ("k", ("a",))]
        task = told_task(2, holes, lambda setting, choice: choice[0] == 0 or choice[1] == setting[1])
        self.assertEqual(plan(task).filling[0], (0, 0))
        self.assertEqual(how_many(task), 4)

    def test_the_greatest_numbers(self):
        inputs = " ".join(NAMES_OF_INPUTS)
        for end, many in (("out 11 h", 2 ** 256), ("out 01 h", 2 ** 192), ("out 0111 h k", 2 ** 128 * 3 ** 64)):
            drawn = f"{inputs} : h ? {inputs} / k ? {inputs} / m ? {inputs} / n ? {inputs} / {end}"
            self.assert_same(how_many(Task(Net.read(drawn), "out")), many)


class WrongArguments(Told):
    def test_what_is_no_task(self):
        for value in wrong_values() + [SOME.net, str(SOME.net), plan(SOME)]:
            for call in CALLS:
                with self.subTest(value=value, call=call):
                    self.assert_raises(BadTask("task"), call, value)

    def test_tasks_without_holes(self):
        for task in (NO_HOLE, Task(Net(["a"], []), "a")):
            for call in CALLS:
                self.assert_raises(Misfit("holes"), call, task)

    def test_sights_that_are_not_nested(self):
        for call in CALLS:
            self.assert_raises(Misfit("sights"), call, APART)


class Facts(Told):
    def test_one_hole_as_with_between(self):
        for task in one_hole_tasks(120, 54):
            self.assertEqual(ladder(task), (0,))
            self.assertEqual(how_many(task), single.how_many(task))
            paper, other = plan(task), between(task)
            self.assertIs(bool(paper), bool(other))
            if paper:
                self.assertIs(type(other), Between)
                self.assertEqual(single.table_at(task, single.number_of(task, paper.filling[0])), paper.filling[0])
            else:
                view, one, zero = paper.tree
                self.assertEqual([task.view(0, one), task.view(0, zero)], [view, view])
                self.assertNotIn((0,), task.right_choices(one))
                self.assertNotIn((1,), task.right_choices(zero))

    def test_holes_of_one_sight(self):
        chooser = random.Random(55)
        for _ in range(120):
            inputs, holes = chooser.choice(((1, 2), (2, 2), (2, 3), (3, 2), (3, 3), (2, 4)))
            sight = NAMES_OF_INPUTS[:chooser.randint(0, inputs - 1)]
            often = chooser.choice((0.6, 0.8, 0.95))
            drawn = [(f"h{at}", chooser.sample(sight, len(sight))) for at in range(holes)]
            task = told_task(inputs, drawn, lambda setting, choice: chooser.random() < often)
            serving = [self.serving(task, len(sight), view) for view in range(2 ** len(sight))]
            expected = 1
            for choices in serving:
                expected *= len(choices)
            self.assertEqual(how_many(task), expected)
            self.assertIs(bool(plan(task)), expected > 0)

    def serving(self, task, seen, view):
        """The choices right at all rows whose first inputs are told by the view."""
        rows = [row for row in range(task.many) if row >> (len(task.net.inputs) - seen) == view]
        return [
            choice for choice in settings(len(task.holes)) if all(choice in task.right_choices(row) for row in rows)
        ]

    def test_plans_stay_with_more_sources(self):
        chooser = random.Random(56)
        many = 0
        for task in TASKS:
            if not plan(task):
                continue
            hole = chooser.randrange(len(task.holes))
            name, sight = task.holes[hole], task.sights[hole]
            more = [wire for wire in task.net.wires[:task.net.wires.index(name)] if wire not in sight]
            more = [wire for wire in more if task.net.is_sure(wire)]
            if not more or len(sight) > 5:
                continue
            wider = Task(task.net.struck(name, [*sight, chooser.choice(more)]), task.wish)
            if drawn_ladder(wider) is not None:
                many += 1
                self.assertIs(type(plan(wider)), Plan)
                told = list(plan(task).filling)
                told[hole] = [sign for sign in told[hole] for _ in (0, 1)]
                self.assertIs(wider.is_right(told), True)
        self.assertGreater(many, 30)

    def test_holes_in_another_order_have_as_many_plans(self):
        for task in TASKS[:120]:
            inputs = task.net.inputs
            holes = list(zip(task.holes, task.sights))
            choices = {row: set(task.right_choices(row)) for row in range(task.many)}

            def is_right(setting, choice):
                return choice[::-1] in choices[int("".join(map(str, setting)), 2)]

            other = told_task(len(inputs), holes[::-1], is_right)
            self.assertEqual(how_many(other), how_many(task))
            self.assertIs(bool(plan(other)), bool(plan(task)))


class NothingIsChanged(Told):
    def test_tasks_stay_and_equal_ones_get_equal_answers(self):
        for task in TASKS[:80]:
            before = (str(task.net), task.wish, task.many, task.holes, task.sights)
            answers = (ladder(task), plan(task), how_many(task))
            again = Task(Net.read(str(task.net)), task.wish)
            self.assertEqual((ladder(again), plan(again), how_many(again)), answers)
            self.assert_same((str(task.net), task.wish, task.many, task.holes, task.sights), before)


class ShortTimes(Told):
    def test_the_greatest_tasks(self):
        begin = time.process_time()
        chooser = random.Random(57)
        inputs = " ".join(NAMES_OF_INPUTS)
        for often in (0.5, 0.8, 0.9, 0.97):
            signs = ["".join(str(int(chooser.random() < often)) for _ in range(64)) for _ in range(3)]
            for sights in ((inputs,) * 4, (inputs, "a b c", "", "a"), ("a b c d e", "b c d", "c", inputs), ("",) * 4):
                holes = " / ".join(f"{name} ? {sight}".strip() for name, sight in zip("hkmn", sights))
                task = Task(Net.read(
                    f"{inputs} : {holes} / x {signs[0]} a b h k m n / y {signs[1]} c d h k m n"
                    f" / z {signs[2]} e f h k m n / out 01111111 x y z"
                ), "out")
                self.assertIs(how_many(task) > 0, bool(plan(task)))
        net = greatest_net()
        for hole in net.holes[1:]:
            net = net.put(hole, [0, 1, 1, 0] * 16)
        for wish in net.wires[-3:]:
            plan(Task(net, wish))
            how_many(Task(net, wish))
        self.assertLess(time.process_time() - begin, 8)
