"""Many questions about one task: each kind of call stays within a small part of the time that it once took."""

import random
import time

from holegates import ladders
from holegates.check_forms import shows_faithful, shows_sound
from holegates.check_ladders import shows_plan
from holegates.check_sights import shows_enough
from holegates.check_single import shows_between
from holegates.check_unlike import shows_settled
from holegates.forms import Bends, Faithful, Sound, Strays, comes_of, faithful, form_of, sound
from holegates.ladders import Plan, plan
from holegates.nets import Net
from holegates.sights import Short
from holegates.single import Between, Clash, between
from holegates.tasks import Task
from holegates.unlike import Refused, Settled
from tests.support import Told, nested_tasks, one_hole_tasks

SIX = Task(Net.read(
    "a b c d e f : p 0110 a b / q 0110 c d / r 0110 e f / s 0110 p q / h ? a b c d e f / t 0110 h s / u 0111 t r"
    " / v 0111 u a / w 0111 v b / x 0111 w c / out 0111 x d"
), "out")
FOUR = Task(Net.read(
    "a b c d e f : h ? a b / i ? a b c / j ? a b c d / k ? a b c d / p 0110 h i / q 0110 j k / r 0111 p q"
    " / s 0111 r e / out 0111 s f"
), "out")
FORM = form_of(FOUR)


class ManyCallsOnOneTask(Told):
    # The times are a quarter of what the calls took, or less; they take about a tenth of these times.

    def assert_within(self, seconds, many, call, *arguments):
        """The best of three goes counts, for the sake of what else the machine and Python do meanwhile."""
        self.assertLess(min(self.seconds_of(many, call, arguments) for _ in range(3)), seconds)

    def seconds_of(self, many, call, arguments):
        begin = time.process_time()
        for _ in range(many):
            call(*arguments)
        return time.process_time() - begin

    def test_one_hole(self):
        self.assert_within(0.04, 200, shows_between, SIX, Clash(1, 1))
        self.assert_within(0.015, 20, between, SIX)
        self.assert_within(0.08, 200, shows_between, SIX, Clash(63, 0))
        self.assert_within(0.08, 20, shows_between, SIX, Between([0] * 64, [1] * 64))

    def test_four_nested_holes(self):
        self.assert_within(0.3, 100, shows_faithful, FOUR, FORM, Faithful())
        self.assert_within(0.18, 100, shows_faithful, FOUR, FORM, Bends(0, (0, 0, 0, 0)))
        self.assert_within(0.3, 100, shows_sound, FOUR, FORM, Sound())
        self.assert_within(0.18, 100, form_of, FOUR)
        self.assert_within(0.15, 100, ladders.how_many, FOUR)

    def test_other_calls_on_the_same_tasks(self):
        filling = plan(FOUR).filling
        self.assert_within(0.15, 100, plan, FOUR)
        self.assert_within(0.15, 100, shows_plan, FOUR, Plan(filling))
        self.assert_within(0.15, 100, shows_sound, FOUR, FORM, Strays(0, (0, 0, 0, 0)))
        self.assert_within(0.3, 100, sound, FOUR, FORM)
        self.assert_within(0.3, 100, faithful, FOUR, FORM)
        self.assert_within(0.3, 100, comes_of, FOUR, FORM, filling)
        self.assert_within(0.15, 100, FOUR.is_right, filling)

    def test_unlike_sights_and_wires(self):
        task = Task(Net.read(
            "a b c d e f : h ? a b / i ? c / j ? d / k ? e f / p 0110 h i / q 0110 j k / out 0110 p q"
        ), "out")
        self.assert_within(0.6, 100, shows_settled, task, Settled([[0] * 4, [0] * 2, [1] * 2, [0] * 4]))
        self.assert_within(0.6, 100, shows_settled, task, Refused((0, 0, (1, 1, 0, 1), (1, 0, 2, 3))))
        self.assert_within(0.6, 100, shows_enough, SIX, ["a", "b", "c", "p", "q", "r", "s", "f"], Short(1, 2))


class ManyTasks(Told):
    def test_drawn_tasks_with_bent_papers(self):
        chooser = random.Random(191)
        tasks = one_hole_tasks(60, 192)
        begin = time.process_time()
        for task in tasks:
            for _ in range(60):
                shows_between(task, Clash(chooser.randrange(task.many), chooser.randrange(task.many)))
            for sign in (0, 1):
                table = [sign] * 2 ** len(task.sights[0])
                shows_between(task, Between(table, table))
        self.assertLess(time.process_time() - begin, 0.5)

    def test_drawn_forms_with_bent_papers(self):
        tasks = [task for task in nested_tasks(60, 193) if plan(task)]
        begin = time.process_time()
        for task in tasks:
            form = form_of(task)
            for row in range(task.many):
                for choice in task.right_choices(row):
                    shows_sound(task, form, Strays(row, choice))
                    shows_faithful(task, form, Bends(row, choice))
            for _ in range(10):
                self.assertIs(shows_sound(task, form, Sound()), True)
                self.assertIs(shows_faithful(task, form, Faithful()), True)
        self.assertLess(time.process_time() - begin, 2)
