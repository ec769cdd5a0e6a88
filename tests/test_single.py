"""Tasks with one hole: their tables against trying all, and the facts about them."""

import itertools
import random
import time

from holegates import single as module
from holegates.errors import BadNumber, BadTable, BadTask, Impossible, Misfit
from holegates.nets import Net
from holegates.papers import Denial, Paper
from holegates.single import Between, Clash, between, free_views, how_many, number_of, table_at
from holegates.tables import both, either, follows, in_order
from holegates.tasks import Task
from tests.support import (
    HUGE, NAMES_OF_INPUTS, Drawn, Told, bent_signs, greatest_net, one_hole_tasks, tables, told_task, wrong_numbers,
    wrong_tables, wrong_values,
)

TASK = Task(Net.read("a b : h ? a b / u 0001 a h / v 0010 b h / w 0111 u v / x 0111 a b / out 1001 w x"), "out")
ODD = Task(Net.read("a b : h ? a b / u 0001 a h / v 0010 b h / w 0111 u v / x 0110 a b / out 1001 w x"), "out")
NO_HOLE = Task(Net.read("a : x 01 a"), "x")
TWO_HOLES = Task(Net.read("a : h ? a / k ? a / x 0110 h k"), "x")
TASKS = one_hole_tasks(240, 31)

CALLS = (
    (between, ()), (free_views, ()), (how_many, ()), (table_at, (0,)), (table_at, (None,)),
    (number_of, ((0, 0, 1, 0),)), (number_of, (None,)),
)


def clashes(task):
    """All pairs of rows that clash, as point 7 tells them."""
    drawn = Drawn(task)
    return [
        (one, other) for one, other in itertools.product(range(drawn.many), repeat=2)
        if drawn.views[one] == drawn.views[other] and (0,) not in drawn.right[one] and (1,) not in drawn.right[other]
    ]


def task_with(sources, is_right, inputs=2):
    return told_task(inputs, [("h", sources)], is_right)


class Papers(Told):
    def test_between(self):
        for paper in (Between([0, 1], (1, 1)), Between(greatest=[1, 1], least=(0, 1))):
            self.assertIsInstance(paper, Paper)
            self.assertNotIsInstance(paper, Denial)
            self.assert_same((paper.word, paper.parts), ("between", ((0, 1), (1, 1))))
            self.assert_same((paper.least, paper.greatest, bool(paper)), ((0, 1), (1, 1), True))
        self.assertEqual(Between([0], [1]), Between((0,), (1,)))
        self.assertNotEqual(Between((0,), (1,)), Between((1,), (0,)))

    def test_clash(self):
        for paper in (Clash(3, 1), Clash(other=1, one=3)):
            self.assertIsInstance(paper, Denial)
            self.assert_same((paper.word, paper.parts), ("clash", (3, 1)))
            self.assert_same((paper.one, paper.other, bool(paper)), (3, 1, False))
        self.assertEqual(Clash(3, 1), Clash(3, 1))
        self.assertNotEqual(Clash(3, 1), Clash(1, 3))
        self.assertNotEqual(Clash(3, 1), Between(3, 1))

    def test_any_values(self):
        for value in wrong_values():
            if not isinstance(value, list):
                self.assertIs(Between(value, 0).least, value)
                self.assertIs(Clash(0, value).other, value)
        self.assert_same(Clash([[1], 2], None).parts, (((1,), 2), None))

    def test_they_are_defined_in_this_file(self):
        for name in ("Between", "Clash", "between", "free_views", "how_many", "table_at", "number_of"):
            self.assertEqual(getattr(module, name).__module__, "holegates.single")


class AgainstTryingAll(Told):
    def test_between_or_clash(self):
        found = {"between": 0, "clash": 0}
        for task in TASKS:
            right = [table for table, in Drawn(task).right_fillings()]
            paper = between(task)
            found[paper.word] += 1
            self.assertIs(type(paper), Between if right else Clash)
            if right:
                least, greatest = paper.parts
                self.assert_same((least, greatest), (min(right, key=sum), max(right, key=sum)))
                for table in tables(len(task.sights[0])):
                    within = all(low <= sign <= high for low, sign, high in zip(least, table, greatest))
                    self.assertEqual(table in right, within)
            else:
                self.assertIn(paper.parts, clashes(task))
            self.assertEqual(not right, bool(clashes(task)))
            self.assertEqual(between(task=task), paper)
        self.assertGreater(min(found.values()), 50)

    def test_free_views(self):
        for task in TASKS:
            drawn = Drawn(task)
            right = drawn.right_fillings()
            if right:
                wanted = [drawn.views[row] for row in range(drawn.many) if len(drawn.right[row]) == 1]
                expected = tuple(view for _, view in drawn.unknowns if (view,) not in wanted)
                self.assert_same(free_views(task), expected)
                self.assert_same(free_views(task=task), expected)
                self.assertEqual(len(right), 2 ** len(expected))
            else:
                self.assert_raises_impossible(free_views, task)

    def test_numbers_of_tables_there_and_back(self):
        for task in TASKS:
            right = sorted(table for table, in Drawn(task).right_fillings())
            self.assert_same(how_many(task), len(right))
            self.assert_same(how_many(task=task), len(right))
            for number, table in enumerate(right):
                self.assert_same(table_at(task, number), table)
                self.assert_same(table_at(number=number, task=task), table)
                self.assert_same(number_of(task, table), number)
                self.assert_same(number_of(table=list(table), task=task), number)

    def test_numbers_and_tables_that_are_none(self):
        for task in TASKS:
            right = [table for table, in Drawn(task).right_fillings()]
            if right:
                for number in (-1, len(right)):
                    self.assert_raises(BadNumber("number"), table_at, task, number)
                for table in tables(len(task.sights[0])):
                    if table not in right:
                        self.assert_raises(BadTable("table"), number_of, task, table)
            else:
                for value in (0, -1, None, [0, 0], (1,)):
                    self.assert_raises_impossible(table_at, task, value)
                    self.assert_raises_impossible(number_of, task, value)

    def assert_raises_impossible(self, call, *arguments):
        with self.assertRaises(Impossible) as caught:
            call(*arguments)
        self.assertEqual(vars(caught.exception), {"paper": between(arguments[0])})
        self.assertIs(type(caught.exception.paper), Clash)


class Edges(Told):
    def test_a_hole_without_sources(self):
        for wished, expected in (((0, 1), ((0,), (1,))), ((1,), ((1,), (1,))), ((0,), ((0,), (0,)))):
            task = task_with((), lambda setting, choice: choice[0] in wished)
            self.assert_same(between(task).parts, expected)
            self.assertEqual(how_many(task), len(wished))
        self.assertEqual(free_views(task_with((), lambda setting, choice: 1)), (0,))
        task = task_with((), lambda setting, choice: setting[0] == choice[0])
        self.assertIn(between(task).parts, [(2, 0), (2, 1), (3, 0), (3, 1)])

    def test_a_lost_row_stands_twice(self):
        task = task_with(("a", "b"), lambda setting, choice: setting != (0, 1))
        self.assert_same(between(task).parts, (1, 1))
        self.assert_same(how_many(task), 0)

    def test_the_first_one_wants_1_and_the_other_one_0(self):
        for one, other in itertools.permutations(range(4), 2):
            def is_right(setting, choice, one=one, other=other):
                return choice[0] == {one: 1, other: 0}.get(2 * setting[0] + setting[1], choice[0])

            self.assert_same(between(task_with((), is_right)).parts, (one, other))

    def test_views_that_no_row_has(self):
        task = Task(Net.read("a : n 10 a / h ? a n / out 0111 h a"), "out")
        self.assert_same(between(task).parts, ((0, 1, 0, 0), (0, 1, 1, 0)))
        self.assert_same((free_views(task), how_many(task)), ((2,), 2))
        self.assert_same((table_at(task, 0), table_at(task, 1)), ((0, 1, 0, 0), (0, 1, 1, 0)))
        self.assert_raises(BadTable("table"), number_of, task, (1, 1, 0, 0))
        self.assert_raises(BadTable("table"), number_of, task, (0, 1, 0, 1))

    def test_wishes_that_are_inputs_holes_and_sure_gates(self):
        net = Net.read("a b : n 11 a / h ? b / x 01 h")
        self.assert_same(between(Task(net, "h")).parts, ((1, 1), (1, 1)))
        self.assert_same(between(Task(net, "n")).parts, ((0, 0), (1, 1)))
        self.assertIn(between(Task(net, "a")).parts, [(0, 0), (0, 1), (1, 0), (1, 1)])

    def test_six_sources_and_very_many_tables(self):
        net = Net.read("a b c d e f : h ? f e d c b a / out 11 h")
        task = Task(net, "out")
        self.assert_same(between(task).parts, ((0,) * 64, (1,) * 64))
        self.assert_same((free_views(task), how_many(task)), (tuple(range(64)), 2 ** 64))
        chooser = random.Random(32)
        for number in [0, 1, 2 ** 63, 2 ** 64 - 1] + [chooser.randrange(2 ** 64) for _ in range(20)]:
            expected = tuple(int(sign) for sign in f"{number:064b}")
            self.assert_same(table_at(task, number), expected)
            self.assert_same(number_of(task, expected), number)
        for number in (2 ** 64, -1, HUGE, -HUGE):
            self.assert_raises(BadNumber("number"), table_at, task, number)

    def test_numbers_count_the_free_views_alone(self):
        task = task_with(("b", "a"), lambda setting, choice: setting[0] == setting[1] or choice[0] == setting[0])
        self.assert_same(between(task).parts, ((0, 1, 0, 0), (1, 1, 0, 1)))
        expected = [(0, 1, 0, 0), (0, 1, 0, 1), (1, 1, 0, 0), (1, 1, 0, 1)]
        self.assert_same([table_at(task, at) for at in range(4)], expected)


class WrongArguments(Told):
    def test_what_is_no_task(self):
        for value in wrong_values() + [TASK.net, str(TASK.net), between(TASK)]:
            for call, more in CALLS:
                with self.subTest(value=value, call=call):
                    self.assert_raises(BadTask("task"), call, value, *more)

    def test_tasks_without_or_with_more_holes(self):
        three = Task(Net.read("a : h ? / k ? / m ? / x 0110 h k"), "x")
        four = Task(Net.read("a : h ? / k ? / m ? / n ? / x 0110 h k"), "a")
        for task in (NO_HOLE, TWO_HOLES, three, four, Task(Net(["a"], []), "a")):
            for call, more in CALLS:
                self.assert_raises(Misfit("holes"), call, task, *more)

    def test_what_cannot_be_filled_comes_ahead_of_numbers_and_tables(self):
        for call, more in CALLS:
            if call in (between, how_many):
                continue
            self.assert_raises_with_clash(call, ODD, *more)
            self.assert_raises_with_clash(call, ODD, *["x" for _ in more])

    def assert_raises_with_clash(self, call, *arguments):
        with self.assertRaises(Impossible) as caught:
            call(*arguments)
        self.assertEqual(caught.exception.paper, Clash(3, 3))

    def test_what_is_no_number(self):
        for value in wrong_numbers(0, 3):
            with self.subTest(value=value):
                self.assert_raises(BadNumber("number"), table_at, TASK, value)

    def test_what_is_no_such_table(self):
        for value in wrong_tables() + bent_signs((0, 0, 1, 0)):
            if value not in ((1, 0, 1, 0), (0, 0, 1, 1)):
                with self.subTest(value=value):
                    self.assert_raises(BadTable("table"), number_of, TASK, value)


class Facts(Told):
    def test_both_and_either_of_two_right_tables_are_right(self):
        for task in TASKS[:120]:
            many = how_many(task)
            right = [table_at(task, number) for number in range(many)]
            for one, other in itertools.product(right[:8], repeat=2):
                self.assertIn(both(one, other), right)
                self.assertIn(either(one, other), right)

    def test_two_wishes_at_once(self):
        kinds = set()
        chooser = random.Random(33)
        for _ in range(150):
            net = chooser.choice(TASKS).net
            if len(net.gates) > 22:
                continue
            wishes = [chooser.choice(net.wires), chooser.choice(net.wires)]
            one, other = [between(Task(net, wish)) for wish in wishes]
            if wishes[0] == wishes[1]:
                continue
            together = Task(Net(net.inputs, [*net.gates, ("both", wishes, (0, 0, 0, 1))]), "both")
            found = between(together)
            kinds.add((bool(one), bool(other), bool(found)))
            if found:
                least, greatest = either(one.least, other.least), both(one.greatest, other.greatest)
                self.assertEqual(found, Between(least, greatest))
            first, second = [set(Drawn(Task(net, wish)).right_fillings()) for wish in wishes]
            self.assertEqual(how_many(together), len(first & second))
        self.assertIn((True, True, True), kinds)

    def test_each_of_two_wishes_can_be_had_and_both_not(self):
        net = Net.read("a : h ? a / n 10 h / x 0001 h n")
        self.assertEqual([how_many(Task(net, wish)) for wish in ("h", "n", "x")], [1, 1, 0])

    def test_what_could_be_filled_still_can_with_more_sources(self):
        chooser = random.Random(34)
        for task in TASKS:
            name, sight = task.holes[0], task.sights[0]
            ahead = task.net.wires[:task.net.wires.index(name)]
            more = [wire for wire in ahead if wire not in sight]
            if more and between(task):
                wider = Task(task.net.struck(name, [*sight, chooser.choice(more)]), task.wish)
                self.assertTrue(between(wider))
                old = between(task).least
                self.assertTrue(wider.is_right([[sign for sign in old for _ in (0, 1)]]))

    def test_sources_in_another_order(self):
        for task in TASKS:
            sight = task.sights[0]
            other = Task(task.net.struck(task.holes[0], sight[::-1]), task.wish)
            if between(task):
                backwards = range(len(sight))[::-1]
                expected = [in_order(table, list(backwards)) for table in between(task).parts]
                self.assertEqual(between(other), Between(*expected))
            else:
                self.assertIs(type(between(other)), Clash)

    def test_all_right_tables_follow_from_the_least(self):
        for task in TASKS[:100]:
            for number in range(min(how_many(task), 9)):
                self.assertTrue(follows(between(task).least, table_at(task, number)))
                self.assertTrue(follows(table_at(task, number), between(task).greatest))


class NothingIsChanged(Told):
    def test_tasks_and_tables_stay(self):
        table = [1, 0, 1, 0]
        before = (str(TASK.net), TASK.wish, TASK.sights)
        for call, more in CALLS:
            for task in (TASK, ODD):
                try:
                    call(task, *more)
                except ValueError:
                    pass
        number_of(TASK, table)
        self.assert_same((str(TASK.net), TASK.wish, TASK.sights, table), (*before, [1, 0, 1, 0]))

    def test_equal_tasks_get_equal_answers(self):
        for task in TASKS:
            again = Task(Net.read(str(task.net)), task.wish)
            self.assertEqual(between(again), between(task))


class ShortTimes(Told):
    def test_the_greatest_tasks(self):
        begin = time.process_time()
        net = greatest_net()
        for hole in net.holes[1:]:
            net = net.put(hole, [0, 1, 1, 0] * 16)
        for wish in net.wires[-4:]:
            task = Task(net, wish)
            self.assertEqual(bool(between(task)), how_many(task) > 0)
        inputs = " ".join(NAMES_OF_INPUTS)
        task = Task(Net.read(f"{inputs} : h ? {inputs} / k ? {inputs} / out 1101 h k").put("k", [0, 1] * 32), "out")
        self.assertEqual(how_many(task), 2 ** 32)
        self.assertEqual(number_of(task, table_at(task, 2 ** 31)), 2 ** 31)
        self.assertLess(time.process_time() - begin, 4)
