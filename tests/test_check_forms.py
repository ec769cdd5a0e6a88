"""Checks of the papers about forms: right ones, bent ones, and values of all kinds."""

import itertools
import random
import time

from holegates import check_forms as module
from holegates.check_forms import shows_faithful, shows_sound
from holegates.errors import BadForm, BadTask, Misfit, TooMany
from holegates.forms import Bends, Faithful, Sound, Strays, faithful, form_of, sound
from holegates.ladders import plan
from holegates.nets import Net
from holegates.tasks import Task
from tests.support import (
    HUGE, NAMES_OF_INPUTS, DrawnForms, EqualsAll, RaisesAlways, Told, bent_signs, nested_deep, nested_tasks,
    one_hole_tasks, strange_values, told_task, wrong_tables, wrong_values,
)

FREE = Task(Net.read("a b : h ? a / k ? a b / out 11111001 h k b"), "out")
SOME = Task(Net.read("a b : h ? a b / k ? a / s 0110 h k / out 1001 s b"), "out")
BLIND = Task(Net.read("a b : h ? a / k ? a / s 0110 h k / out 1001 s b"), "out")
OWN = ((0, 1) * 8, (0, 1) * 2)
ONE = ((0, 0, 0, 0, 1, 1, 1, 1) * 2, (0,) * 4)
NO_HOLE = Task(Net.read("a : x 01 a"), "x")
APART = Task(Net.read("a b : h ? a / k ? b / out 0110 h k"), "out")
NINE = Task(Net.read("a b c d e f : h ? a b c d e f / k ? / m ? a / out 01 m"), "out")

TASKS = [
    *nested_tasks(100, 91, most_unknowns=6), *one_hole_tasks(30, 92),
    told_task(2, [("h", ("b", "n1", "a")), ("k", ("n1",))], lambda setting, choice: sum(choice) % 2 == setting[1]),
    told_task(1, [(name, ()) for name in "hkmn"], lambda setting, choice: sum(choice) == 2),
]
CHECKS = (shows_sound, shows_faithful)


class LikeSound(Sound):
    """A class below Sound: its papers are no Sounds."""


class LikeFaithful(Faithful):
    """A class below Faithful: its papers are no Faithfuls."""


class LikeStrays(Strays):
    """A class below Strays: its papers are none."""


class LikeBends(Bends):
    """A class below Bends: its papers are none."""


def forms_of_many_tasks(seed):
    """Tasks with what the drawing tells of their forms, their right fillings, and a form."""
    chooser = random.Random(seed)
    for task in TASKS:
        made = DrawnForms(task)
        right = made.drawn.right_fillings()
        for form in ([form_of(task)] if right else []) + made.some_forms(chooser, right):
            yield task, made, right, form


class RightPapers(Told):
    def test_what_the_functions_tell(self):
        for task, _, _, form in forms_of_many_tasks(93):
            lists = [list(table) for table in form]
            self.assertIs(shows_sound(task, form, sound(task, form)), True)
            self.assertIs(shows_sound(value=sound(task, form), form=lists, task=task), True)
            self.assertIs(shows_faithful(task, form, faithful(task, form)), True)
            self.assertIs(shows_faithful(value=faithful(task, form), form=lists, task=task), True)

    def test_sound_and_faithful_against_putting_in_all_plain_fillings(self):
        for task, made, right, form in forms_of_many_tasks(94):
            is_sound = all(made.filling_of(form, free) in right for free in made.drawn.plain_fillings())
            self.assertIs(shows_sound(task, form, Sound()), is_sound)
            is_faithful = all(made.filling_of(form, filling) == filling for filling in right)
            self.assertIs(shows_faithful(task, form, Faithful()), is_faithful)

    def test_just_such_rows_and_choices(self):
        found = [0, 0]
        for task, made, right, form in forms_of_many_tasks(95):
            rows = range(-1, made.drawn.many + 1)
            for row, signs in itertools.product(rows, made.drawn.choices):
                known = 0 <= row < made.drawn.many
                comes = made.choice_of(form, row, signs) if known else None
                strays = known and comes not in made.drawn.right[row]
                self.assertIs(shows_sound(task, form, Strays(row, signs)), strays)
                bends = known and comes != signs and any(made.drawn.choice(done, row) == signs for done in right)
                self.assertIs(shows_faithful(task, form, Bends(row, list(signs))), bends)
                found = [found[0] + strays, found[1] + bends]
        self.assertGreater(min(found), 200)

    def test_a_choice_that_is_right_at_its_row_but_made_by_no_right_filling(self):
        # h sees nothing; with h 1 nothing is right at row 1, so no right filling has h 1 at row 0.
        task = told_task(1, [("h", ()), ("k", ("a",))], lambda setting, choice: not (setting[0] and choice[0]))
        form = ((0, 0), (0,) * 8)
        self.assertIs(shows_faithful(task, form, Bends(0, (0, 1))), True)
        self.assertIs(shows_faithful(task, form, Bends(0, (1, 1))), False)
        self.assertIs(shows_faithful(task, form, Bends(0, (1, 0))), False)
        self.assertIs(shows_faithful(task, form, Bends(0, (0, 0))), False)

    def test_choices_are_told_by_the_numbers_of_the_holes(self):
        # The ladder is k, h; just the choice with h 1 and k 0 strays.
        task = told_task(1, [("h", ("a",)), ("k", ())], lambda setting, choice: choice != (1, 0))
        own = DrawnForms(task).own()
        self.assertIs(shows_sound(task, own, Strays(0, (1, 0))), True)
        self.assertIs(shows_sound(task, own, Strays(0, (0, 1))), False)
        form = ((0, 1, 0, 0) * 2, (0, 1))
        self.assertIs(shows_faithful(task, form, Bends(1, (1, 1))), True)
        self.assertIs(shows_faithful(task, form, Bends(1, (0, 1))), False)

    def test_where_nothing_is_right(self):
        for form in (DrawnForms(BLIND).own(), DrawnForms(BLIND).any_form(random.Random(96))):
            self.assertIs(shows_sound(BLIND, form, Sound()), False)
            self.assertIs(shows_faithful(BLIND, form, Faithful()), True)
            for row, signs in itertools.product(range(4), itertools.product((0, 1), repeat=2)):
                self.assertIs(shows_faithful(BLIND, form, Bends(row, signs)), False)


class BentPapers(Told):
    def test_bent_rows(self):
        self.assertIs(shows_sound(SOME, OWN, Strays(0, (1, 0))), True)
        self.assertIs(shows_faithful(SOME, ONE, Bends(0, (1, 1))), True)
        more = [4, -4, HUGE, "0", 0.0, [0], (0,), RaisesAlways(), EqualsAll(), nested_deep(0, 25)]
        for value in wrong_values() + more:
            if value is False or type(value) is not int or value not in range(4):
                with self.subTest(value=value):
                    self.assertIs(shows_sound(SOME, OWN, Strays(value, (1, 0))), False)
                    self.assertIs(shows_faithful(SOME, ONE, Bends(value, (1, 1))), False)

    def test_bent_signs(self):
        for bent in bent_signs((1, 0)):
            strays = bent == (0, 1) and not any(isinstance(sign, bool) for sign in bent)
            with self.subTest(bent=bent):
                self.assertIs(shows_sound(SOME, OWN, Strays(0, bent)), strays)
        for bent in bent_signs((1, 1)):
            with self.subTest(bent=bent):
                self.assertIs(shows_faithful(SOME, ONE, Bends(0, bent)), False)
        for bent in wrong_values() + [
            "10", b"10", 2, [[1, 0]], [[1], [0]], {0: 1, 1: 0}, RaisesAlways(), EqualsAll(), nested_deep((1, 0), 25),
            [1, RaisesAlways()], [EqualsAll(), 0], (1, 0) * 9000,
        ]:
            with self.subTest(bent=bent):
                self.assertIs(shows_sound(SOME, OWN, Strays(0, bent)), False)
                self.assertIs(shows_faithful(SOME, ONE, Bends(0, bent)), False)

    def test_truths_for_signs_and_numbers(self):
        for paper in (Strays(False, (1, 0)), Strays(0, (True, 0)), Strays(0, (1, False)), Strays(0, (True, False))):
            self.assertIs(shows_sound(SOME, OWN, paper), False)
        for paper in (Bends(False, (1, 1)), Bends(0, (True, 1)), Bends(0, (1, True)), Bends(0, (True, True))):
            self.assertIs(shows_faithful(SOME, ONE, paper), False)

    def test_rows_and_signs_exchanged(self):
        self.assertIs(shows_sound(SOME, OWN, Strays((1, 0), 0)), False)
        self.assertIs(shows_faithful(SOME, ONE, Bends((1, 1), 0)), False)

    def test_lists_for_tuples(self):
        self.assertIs(shows_sound(SOME, list(map(list, OWN)), Strays(0, [1, 0])), True)
        self.assertIs(shows_faithful(SOME, list(map(list, ONE)), Bends(0, [1, 1])), True)

    def test_papers_of_other_classes(self):
        papers = [
            Sound(), Faithful(), LikeSound(), LikeFaithful(),
            *[made(0, (1, 0)) for made in (Strays, Bends, LikeStrays, LikeBends)],
            *[made(0, (1, 1)) for made in (Strays, Bends, LikeStrays, LikeBends)],
        ]
        for form, rights in (
            (OWN, (Strays(0, (1, 0)), Faithful())), (ONE, (Sound(), Bends(0, (1, 1)))),
            (form_of(SOME), (Sound(), Faithful())),
        ):
            for check, right in zip(CHECKS, rights):
                for paper in papers:
                    self.assertIs(check(SOME, form, paper), paper == right)

    def test_values_that_are_no_papers(self):
        for value in strange_values() + [Sound, Strays, Faithful, Bends, plan(SOME), FREE]:
            for form in (OWN, ONE, form_of(SOME)):
                for check in CHECKS:
                    self.assertIs(check(SOME, form, value), False)


class WrongArguments(Told):
    def test_errors_as_of_the_functions(self):
        papers = [Sound(), Faithful(), Strays(0, (1, 0)), Bends(0, (1, 1)), None, RaisesAlways()]
        for check, paper in itertools.product(CHECKS, papers):
            for form in (OWN, None):
                for value in wrong_values() + [SOME.net]:
                    self.assert_raises(BadTask("task"), check, value, form, paper)
                self.assert_raises(Misfit("holes"), check, NO_HOLE, form, paper)
                self.assert_raises(Misfit("sights"), check, APART, form, paper)
                self.assert_raises(TooMany("places", 8), check, NINE, form, paper)
            for value in wrong_values() + wrong_tables() + [OWN[0], OWN[::-1], OWN[:1], (*OWN, OWN[0])]:
                self.assert_raises(BadForm("form"), check, SOME, value, paper)

    def test_they_are_defined_in_this_file(self):
        for name in ("shows_sound", "shows_faithful"):
            self.assertEqual(getattr(module, name).__module__, "holegates.check_forms")


class ShortTimes(Told):
    def test_the_greatest_tasks(self):
        begin = time.process_time()
        inputs = " ".join(NAMES_OF_INPUTS)
        holes = " / ".join(f"{name} ? a b c d" for name in "hkmn")
        task = Task(Net.read(f"{inputs} : {holes} / x 01111111 a b h / y 1110 k m / out 0111 x y"), "out")
        made = DrawnForms(task)
        self.assertEqual(made.places, [5, 6, 7, 8])
        own = made.own()
        for form in (own, form_of(task), [[0] * 2 ** places for places in made.places]):
            for paper in (Sound(), Strays(0, (0, 1, 1, 0)), Strays(63, (1,) * 4), Strays(0, (0,) * 15000)):
                shows_sound(task, form, paper)
            for paper in (Faithful(), Bends(0, (1, 1, 1, 0)), Bends(63, (1,) * 4), Bends(0, (0,) * 15000)):
                shows_faithful(task, form, paper)
        self.assertIs(shows_faithful(task, own, Faithful()), True)
        self.assertIs(shows_sound(task, own, Strays(0, (0, 1, 1, 0))), True)
        self.assertLess(time.process_time() - begin, 6)
