"""The fewest rows that bar a task, against trying all lots of rows."""

import itertools
import random
import time

from holegates import leastbars as module
from holegates.errors import BadTask, Misfit, TooMany
from holegates.leastbars import fewest_rows
from holegates.nets import Net
from holegates.single import between
from holegates.tasks import Task
from holegates.unlike import settle
from tests.support import (
    NAMES_OF_INPUTS, Drawn, Told, one_hole_tasks, settings, told_task, unlike_tasks, wrong_values,
)

TASKS = [task for task in unlike_tasks(300, 111, most_unknowns=7) if task.many <= 8]


def bars(drawn, fillings, lot):
    return not any(all(drawn.choice(filling, row) in drawn.right[row] for row in lot) for filling in fillings)


def first_lot(task):
    """The first lot of rows that bars the task, by trying each filling at the rows of each lot."""
    drawn = Drawn(task)
    fillings = list(drawn.plain_fillings())
    for many in range(1, drawn.many + 1):
        for lot in itertools.combinations(range(drawn.many), many):
            if bars(drawn, fillings, lot):
                return lot
    return None


def parity_of_two(mark, turn, swap):
    """h and k see one input each and shall be unlike exactly at one of the rows, or alike there alone."""
    sights = (("b",), ("a",)) if swap else (("a",), ("b",))
    return told_task(
        2, [("h", sights[0]), ("k", sights[1])],
        lambda setting, choice: ((choice[0] != choice[1]) == (setting == mark)) != turn,
    )


class AgainstTryingAll(Told):
    def test_first_of_the_shortest_lots(self):
        lengths = set()
        for task in TASKS:
            expected = first_lot(task)
            self.assert_same(fewest_rows(task), expected)
            self.assert_same(fewest_rows(task=task), expected)
            self.assertIs(expected is None, bool(settle(task)))
            lengths.add(None if expected is None else len(expected))
        self.assertTrue({None, 1, 2, 3} <= lengths)

    def test_no_row_of_it_can_be_left_out(self):
        for task in TASKS:
            lot = fewest_rows(task)
            if lot is not None:
                drawn = Drawn(task)
                fillings = list(drawn.plain_fillings())
                for row in lot:
                    self.assertFalse(bars(drawn, fillings, [other for other in lot if other != row]))


class Facts(Told):
    def test_it_can_take_all_four_rows(self):
        for mark, turn, swap in itertools.product(settings(2), (False, True), (False, True)):
            self.assert_same(fewest_rows(parity_of_two(mark, turn, swap)), (0, 1, 2, 3))

    def test_any_three_of_them_can_be_had(self):
        task = parity_of_two((1, 1), False, False)
        for left in range(4):
            gates = [gate for gate in task.net.gates if gate[0] != "out"]
            signs = dict((name, table) for name, _, table in task.net.gates)["out"]
            signs = [1 if at >> 2 == left else sign for at, sign in enumerate(signs)]
            eased = Task(Net(task.net.inputs, [*gates, ("out", ("a", "b", "h", "k"), signs)]), "out")
            self.assertIsNone(fewest_rows(eased))

    def test_one_hole_needs_two_rows_or_one(self):
        lengths = set()
        for task in one_hole_tasks(150, 112):
            lot = fewest_rows(task)
            paper = between(task)
            self.assertIs(lot is None, bool(paper))
            if lot is not None:
                lengths.add(len(lot))
                views = {task.view(0, row) for row in lot}
                self.assertEqual(len(views), 1)
        self.assertEqual(lengths, {1, 2})

    def test_holes_of_one_sight_need_one_row_for_each_choice_at_most(self):
        chooser = random.Random(113)
        for _ in range(80):
            holes = chooser.randint(1, 3)
            sight = NAMES_OF_INPUTS[:chooser.randint(0, 1)]
            often = chooser.choice((0.5, 0.8))
            drawn = [(f"h{at}", sight) for at in range(holes)]
            task = told_task(3, drawn, lambda setting, choice: chooser.random() < often)
            lot = fewest_rows(task)
            self.assertTrue(lot is None or len(lot) <= 2 ** holes)


class Edges(Told):
    def test_lost_rows(self):
        holes = [("h", ("a",)), ("k", ("b",))]
        task = told_task(3, holes, lambda setting, choice: setting not in ((1, 0, 1), (1, 1, 1)))
        self.assert_same(fewest_rows(task), (5,))
        self.assert_same(fewest_rows(Task(Net.read("a : h ? a / out 00 h"), "out")), (0,))
        self.assert_same(fewest_rows(Task(Net.read("a : h ? a"), "a")), (0,))

    def test_just_eight_rows_and_sixteen(self):
        three = Task(Net.read("a b c : h ? a / out 0110 h c"), "out")
        self.assert_same(fewest_rows(three), (0, 1))
        four = Task(Net.read("a b c d : h ? a / out 0110 h c"), "out")
        self.assert_raises(TooMany("rows", 8), fewest_rows, four)
        self.assert_raises(TooMany("rows", 8), fewest_rows, Task(Net.read("a b c d : h ? a / out 01 h"), "out"))
        self.assert_raises(TooMany("rows", 8), fewest_rows, Task(Net.read("a b c d : h ? a / out 00 h"), "out"))

    def test_twelve_unknowns_and_thirteen_at_eight_rows(self):
        net = "a b c : h ? a b c / k ? a b / m ? / x 0001 h k / "
        self.assertIsNone(fewest_rows(Task(Net.read(net + "out 01 x"), "out")))
        self.assert_raises(TooMany("unknowns", 12), fewest_rows, Task(Net.read(net + "out 0001 x m"), "out"))


class WrongArguments(Told):
    def test_what_is_no_task(self):
        for value in wrong_values() + [TASKS[0].net]:
            self.assert_raises(BadTask("task"), fewest_rows, value)

    def test_order_of_errors(self):
        self.assert_raises(Misfit("holes"), fewest_rows, Task(Net.read("a b c d : x 01 d"), "x"))
        self.assert_raises(Misfit("holes"), fewest_rows, Task(Net.read("a : x 01 a"), "x"))
        wide = Task(Net.read("a b c d : h ? a b c d / out 01 h"), "out")
        self.assert_raises(TooMany("unknowns", 12), fewest_rows, wide)

    def test_it_is_defined_in_this_file(self):
        self.assertEqual(module.fewest_rows.__module__, "holegates.leastbars")


class NothingIsChanged(Told):
    def test_equal_tasks_get_equal_answers(self):
        for task in TASKS[:60]:
            before = (str(task.net), task.wish, task.sights)
            again = Task(Net.read(str(task.net)), task.wish)
            self.assert_same(fewest_rows(again), fewest_rows(task))
            self.assert_same((str(task.net), task.wish, task.sights), before)


class ShortTimes(Told):
    def test_the_greatest_tasks(self):
        begin = time.process_time()
        chooser = random.Random(114)
        for sights in (("a b", "b c", "c", "a"), ("a b c", "a", "b", ""), ("a b", "c", "b c", "c")):
            for often in (0.7, 0.8, 0.9, 1):
                signs = ["".join(str(int(chooser.random() < often)) for _ in range(64)) for _ in range(3)]
                holes = " / ".join(f"{name} ? {sight}".strip() for name, sight in zip("hkmn", sights))
                task = Task(Net.read(
                    f"a b c : {holes} / x {signs[0]} a b h k m n / y {signs[1]} c a h k m n"
                    f" / z {signs[2]} b c h k m n / out 00000001 x y z"
                ), "out")
                try:
                    fewest_rows(task)
                except TooMany:
                    pass
        # Only all eight rows bar it: h, k and m see two inputs each, and an odd number of them shall be 1 at row 7.
        task = Task(Net.read(
            "a b c : h ? a b / k ? b c / m ? a c / w 00000001 a b c / x 01101001 h k m / out 1001 w x"
        ), "out")
        self.assert_same(fewest_rows(task), tuple(range(8)))
        self.assertLess(time.process_time() - begin, 4)
