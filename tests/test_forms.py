"""Forms against putting in all plain fillings, as point 9 tells them, and the facts about them."""

import itertools
import random
import time

from holegates import forms as module
from holegates.check_forms import shows_faithful, shows_sound
from holegates.check_ladders import shows_plan
from holegates.errors import BadFilling, BadForm, BadTask, Impossible, Misfit, TooMany
from holegates.forms import Bends, Faithful, Sound, Strays, comes_of, faithful, form_of, is_form, sound
from holegates.ladders import Trap, how_many, plan
from holegates.nets import Net
from holegates.papers import Denial, Paper
from holegates.single import between
from holegates.tasks import Task
from tests.support import (
    NAMES_OF_INPUTS, Drawn, DrawnForms, Told, bent_signs, nested_tasks, one_hole_tasks, some_filling, tables, told_task,
    wrong_tables, wrong_values,
)

SOME = Task(Net.read("a b : h ? a b / k ? a / s 0110 h k / out 1001 s b"), "out")
FREE = Task(Net.read("a b : h ? a / k ? a b / out 11111001 h k b"), "out")
BLIND = Task(Net.read("a b : h ? a / k ? a / s 0110 h k / out 1001 s b"), "out")
NO_HOLE = Task(Net.read("a : x 01 a"), "x")
APART = Task(Net.read("a b : h ? a / k ? b / out 0110 h k"), "out")
NINE = Task(Net.read("a b c d e f : h ? a b c d e f / k ? / m ? a / out 01 m"), "out")
FORM = form_of(FREE)
FILLING = ((1, 0), (1, 1, 1, 0))

TASKS = [
    *nested_tasks(150, 71, most_unknowns=6), *nested_tasks(40, 72, most_unknowns=8), *one_hole_tasks(40, 73),
    told_task(2, [("h", ("a", "n0")), ("k", ("n0", "a"))], lambda setting, choice: choice[0] == choice[1]),
    told_task(2, [("h", ("b", "n1", "a")), ("k", ("n1",))], lambda setting, choice: sum(choice) % 2 == setting[1]),
    told_task(1, [(name, ()) for name in "hkmn"], lambda setting, choice: sum(choice) == 2),
    told_task(2, [("h", ("a",)), ("k", ()), ("m", ("a",))], lambda setting, choice: sum(choice) % 2 == setting[0]),
]
CALLS = (
    (is_form, (FORM,)), (comes_of, (FORM, FILLING)), (form_of, ()), (sound, (FORM,)), (faithful, (FORM,)),
    (is_form, (None,)), (comes_of, (None, None)), (sound, (None,)), (faithful, (None,)),
)


class Papers(Told):
    def test_sound_and_faithful(self):
        for made, word in ((Sound, "sound"), (Faithful, "faithful")):
            paper = made()
            self.assertIsInstance(paper, Paper)
            self.assertNotIsInstance(paper, Denial)
            self.assert_same((paper.word, paper.parts, bool(paper)), (word, (), True))
            self.assertEqual(paper, made())
        self.assertNotEqual(Sound(), Faithful())

    def test_strays_and_bends(self):
        for made, word in ((Strays, "strays"), (Bends, "bends")):
            for paper in (made(2, [1, 0]), made(signs=(1, 0), row=2)):
                self.assertIsInstance(paper, Denial)
                self.assert_same((paper.word, paper.parts), (word, (2, (1, 0))))
                self.assert_same((paper.row, paper.signs, bool(paper)), (2, (1, 0), False))
            self.assertEqual(made(2, [1, 0]), made(2, (1, 0)))
            self.assertNotEqual(made(2, (1, 0)), made(2, (0, 1)))
            for value in wrong_values():
                if not isinstance(value, list):
                    self.assertIs(made(value, 0).row, value)
                    self.assertIs(made(0, value).signs, value)
        self.assertNotEqual(Strays(0, ()), Bends(0, ()))

    def test_they_are_defined_in_this_file(self):
        for name in (
            "Sound", "Strays", "Faithful", "Bends", "is_form", "comes_of", "form_of", "sound", "faithful",
        ):
            self.assertEqual(getattr(module, name).__module__, "holegates.forms")


class WhatIsAForm(Told):
    def test_tables_of_so_many_places(self):
        for task in TASKS:
            made = DrawnForms(task)
            form = made.own()
            for passed in (form, [list(table) for table in form], tuple(map(list, form)), list(form)):
                self.assertIs(is_form(task, passed), True)
                self.assertIs(is_form(value=passed, task=task), True)
            for hole, table in enumerate(form):
                for other in (table + table, table[:len(table) // 2], table[1:], table + (0,), (), None, 0, "01"):
                    self.assertIs(is_form(task, [*form[:hole], other, *form[hole + 1:]]), False)
            for other in (form[1:], form[:-1], (*form, form[-1]), form + form, [form]):
                self.assertIs(is_form(task, other), False)

    def test_views_that_no_row_has_may_say_anything(self):
        chooser = random.Random(74)
        for task in TASKS:
            made = DrawnForms(task)
            for _ in range(3):
                self.assertIs(is_form(task, made.any_form(chooser)), True)

    def test_values_of_all_kinds(self):
        for task in (SOME, FREE):
            for value in wrong_values() + wrong_tables() + [Sound(), FORM[0], "0101", (0, 1) * 4, [[], []], {}]:
                with self.subTest(value=value):
                    self.assertIs(is_form(task, value), False)
        for value in wrong_tables():
            self.assertIs(is_form(FREE, [FORM[0], value]), False)
            self.assertIs(is_form(FREE, [value, FORM[1]]), False)
        for bent in bent_signs(FORM[0])[4:]:
            self.assertIs(is_form(FREE, [bent, FORM[1]]), False)
        self.assertIs(is_form(FREE, FORM[::-1]), False)
        self.assertIs(is_form(SOME, FORM), False)
        self.assertIs(is_form(SOME, FORM[::-1]), True)

    def test_one_and_four_holes(self):
        one = told_task(1, [("h", ())], lambda setting, choice: 1)
        self.assertEqual([is_form(one, [table]) for table in ((0,), (0, 1), (0, 1, 0, 1))], [False, True, False])
        four = told_task(1, [(name, ()) for name in "hkmn"], lambda setting, choice: 1)
        self.assertIs(is_form(four, [(0,) * 2, (0,) * 4, (0,) * 8, (0,) * 16]), True)
        self.assertIs(is_form(four, [(0,) * 16, (0,) * 8, (0,) * 4, (0,) * 2]), False)


class WhatComes(Told):
    def test_against_point_9(self):
        chooser = random.Random(75)
        for task in TASKS:
            made = DrawnForms(task)
            right = made.drawn.right_fillings()
            for form in made.some_forms(chooser, right):
                for free in [*list(made.drawn.plain_fillings())[::5], some_filling(chooser, task.net)]:
                    expected = made.filling_of(form, free)
                    self.assert_same(comes_of(task, form, free), expected)
                    lists = ([list(table) for table in form], [list(table) for table in free])
                    self.assert_same(comes_of(free=lists[1], task=task, form=lists[0]), expected)

    def test_what_is_put_in_at_views_that_no_row_has_changes_nothing(self):
        chooser = random.Random(76)
        for task in TASKS:
            made = DrawnForms(task)
            form, free = made.any_form(chooser), some_filling(chooser, task.net)
            comes = comes_of(task, form, free)
            self.assert_same(comes_of(task, form, task.plain(free)), comes)
            self.assert_same(task.plain(comes), comes)
            other = [
                [sign if at in made.had_places(hole) else 1 - sign for at, sign in enumerate(table)]
                for hole, table in enumerate(form)
            ]
            self.assert_same(comes_of(task, other, free), comes)
            self.assertEqual(sound(task, other), sound(task, form))
            self.assertEqual(faithful(task, other), faithful(task, form))

    def test_its_own_form(self):
        for task in TASKS:
            own = DrawnForms(task).own()
            for free in list(Drawn(task).plain_fillings())[:20]:
                self.assert_same(comes_of(task, own, free), free)

    def test_free_places_of_the_holes_ahead_on_the_ladder(self):
        # The ladder is k, h: so h has the free places of k and of itself, in this order.
        form = ([0, 0, 1, 1] * 4, [0, 1] * 2)
        self.assert_same(comes_of(SOME, form, [[0] * 4, [0, 1]]), ((0, 0, 1, 1), (0, 1)))
        form = ([0, 1, 0, 1] * 4, [1, 0] * 2)
        self.assert_same(comes_of(SOME, form, [[0, 1, 1, 0], [0, 1]]), ((0, 1, 1, 0), (1, 0)))


class MadeAlongTheLadder(Told):
    def test_just_the_right_plain_fillings_come_and_each_of_itself(self):
        possible = 0
        for task in TASKS:
            made = DrawnForms(task)
            right = made.drawn.right_fillings()
            if not right:
                continue
            possible += 1
            form = form_of(task)
            self.assertIs(is_form(task, form), True)
            self.assertEqual({made.filling_of(form, free) for free in made.drawn.plain_fillings()}, set(right))
            for filling in right:
                self.assertEqual(made.filling_of(form, filling), filling)
                self.assert_same(comes_of(task, form, filling), filling)
            self.assertEqual((sound(task, form), faithful(task, form)), (Sound(), Faithful()))
            self.assert_same(form_of(task=task), form)
        self.assertGreater(possible, 100)

    def test_the_sign_put_in_or_the_other_one_if_that_is_not_won(self):
        # What is won with won signs ahead is what some right filling does.
        for task in TASKS:
            made = DrawnForms(task)
            right = made.drawn.right_fillings()
            if right:
                self.assert_same(form_of(task), self.along_the_ladder(made, right))

    def along_the_ladder(self, made, right):
        form = [[0] * 2 ** places for places in made.places]
        for row, choice in itertools.product(range(made.drawn.many), made.drawn.choices):
            left = {made.drawn.choice(filling, row) for filling in right}
            for hole in made.order:
                sign = choice[hole] if choice[hole] in [done[hole] for done in left] else 1 - choice[hole]
                left = {done for done in left if done[hole] == sign}
                form[hole][made.place(hole, made.drawn.views[row][hole], choice)] = sign
        return tuple(map(tuple, form))

    def test_where_nothing_is_right(self):
        many = 0
        chooser = random.Random(77)
        for task in TASKS:
            if Drawn(task).right_fillings():
                continue
            many += 1
            with self.assertRaises(Impossible) as caught:
                form_of(task)
            self.assertIs(type(caught.exception.paper), Trap)
            self.assertIs(shows_plan(task, caught.exception.paper), True)
            for form in DrawnForms(task).some_forms(chooser, []):
                self.assertEqual(faithful(task, form), Faithful())
                self.assertIs(type(sound(task, form)), Strays)
        self.assertGreater(many, 50)

    def test_one_hole(self):
        for task in one_hole_tasks(120, 78):
            if between(task):
                table, = form_of(task)
                self.assert_same((table[::2], table[1::2]), between(task).parts)

    def test_one_hole_has_no_other_form_that_is_sound_and_faithful(self):
        for right in ((1, 1, 1, 1), (0, 1, 1, 0), (1, 0, 1, 1), (0, 1, 1, 1), (1, 1, 0, 0)):
            task = told_task(1, [("h", ("a",))], lambda setting, choice: right[2 * setting[0] + choice[0]])
            good = [form for form in tables(2) if sound(task, [form]) and faithful(task, [form])]
            self.assertEqual(good, [form_of(task)[0]] if between(task) else [])
        task = told_task(1, [("h", ("a", "n0"))], lambda setting, choice: setting[0] or choice[0])
        least, greatest = between(task).parts
        for form in tables(3):
            expected = all((form[2 * view], form[2 * view + 1]) == (least[view], greatest[view]) for view in (1, 2))
            self.assertIs(bool(sound(task, [form])) and bool(faithful(task, [form])), expected)


class SoundAndFaithful(Told):
    def test_against_putting_in_all_plain_fillings(self):
        chooser = random.Random(79)
        found = set()
        for task in TASKS:
            made = DrawnForms(task)
            right = made.drawn.right_fillings()
            more = [form_of(task)] if right else []
            for form in more + made.some_forms(chooser, right):
                comes = [made.filling_of(form, free) for free in made.drawn.plain_fillings()]
                is_sound = all(filling in right for filling in comes)
                is_faithful = all(made.filling_of(form, filling) == filling for filling in right)
                found.add((is_sound, is_faithful))
                one, other = sound(task, form), faithful(form=form, task=task)
                self.assertIs(type(one), Sound if is_sound else Strays)
                self.assertIs(type(other), Faithful if is_faithful else Bends)
                self.assertEqual(sound(form=[list(table) for table in form], task=task), one)
                self.assertEqual(faithful(task, [list(table) for table in form]), other)
                if not one:
                    self.assertIn(one.signs, made.drawn.choices)
                    self.assertNotIn(made.choice_of(form, one.row, one.signs), made.drawn.right[one.row])
                if not other:
                    done = [made.drawn.choice(filling, other.row) for filling in right]
                    self.assertIn(other.signs, done)
                    self.assertNotEqual(made.choice_of(form, other.row, other.signs), other.signs)
        self.assertEqual(len(found), 4)

    def test_each_one_sign_turned_in_the_form_made(self):
        for task in TASKS[:60]:
            made = DrawnForms(task)
            right = made.drawn.right_fillings()
            if not right:
                continue
            form = [list(table) for table in form_of(task)]
            for hole in made.drawn.holes:
                for at in made.had_places(hole):
                    form[hole][at] = 1 - form[hole][at]
                    comes = [made.filling_of(form, free) for free in made.drawn.plain_fillings()]
                    self.assertIs(bool(sound(task, form)), all(filling in right for filling in comes))
                    kept = all(made.filling_of(form, filling) == filling for filling in right)
                    self.assertIs(bool(faithful(task, form)), kept)
                    form[hole][at] = 1 - form[hole][at]

    def test_a_plan_whatever_is_put_in(self):
        for task in TASKS:
            if plan(task):
                form = DrawnForms(task).constant(plan(task).filling)
                self.assertEqual(sound(task, form), Sound())
                self.assertIs(bool(faithful(task, form)), how_many(task) == 1)


class Edges(Told):
    def test_just_eight_places_and_nine(self):
        for text, fits in (
            ("h ? a b c d e f / k ?", True), ("h ? a b c d e f / k ? f e d c b a", True),
            ("h ? a b c d e f / k ? / m ? a", False), ("h ? a b c d e / k ? / m ? a", True),
            ("h ? a b c d e / k ? e d c b a / m ? c d e a b", True),
            ("h ? a b c d / k ? a b c d / m ? a b c d / n ? a b c d", True),
            ("h ? a b c d e / k ? / m ? / n ?", False), ("h ? / k ? / m ? / n ? a b c d", True),
            ("h ? a b c d e f", True), ("h ? a b c d e f / k ? a b c d e f / m ? a b c d e f / n ? a b c d e f", False),
        ):
            task = Task(Net.read(f"a b c d e f : {text} / out 0111 a h"), "out")
            if fits:
                form = form_of(Task(task.net.put("out", [1] * 4), "out"))
                self.assertIs(is_form(task, form), True)
                self.assertEqual(max(len(table) for table in form) <= 256, True)
                self.assertIn(type(sound(task, form)), (Sound, Strays))
            else:
                for call, more in CALLS:
                    self.assert_raises(TooMany("places", 8), call, task, *more)

    def test_views_that_no_row_has_are_0(self):
        task = Task(Net.read("a : n 10 a / h ? a n / out 1111 h a"), "out")
        self.assert_same(form_of(task), ((0, 0, 0, 1, 0, 1, 0, 0),))

    def test_wishes_that_are_inputs_holes_and_sure_gates(self):
        net = Net.read("a : n 11 a / h ? a / k ?")
        self.assert_same(form_of(Task(net, "n")), ((0, 1) * 4, (0, 1)))
        self.assert_same(form_of(Task(net, "k")), ((0, 1) * 4, (1, 1)))
        self.assert_same(form_of(Task(net, "h")), ((1,) * 8, (0, 1)))
        self.assertRaises(Impossible, form_of, Task(net, "a"))


class WrongArguments(Told):
    def test_the_task_its_holes_its_sights_and_its_places(self):
        for call, more in CALLS:
            for value in wrong_values() + [FREE.net, str(FREE.net)]:
                self.assert_raises(BadTask("task"), call, value, *more)
            self.assert_raises(Misfit("holes"), call, NO_HOLE, *more)
            self.assert_raises(Misfit("sights"), call, APART, *more)
            self.assert_raises(TooMany("places", 8), call, NINE, *more)

    def test_sights_ahead_of_places(self):
        net = Net.read("a b c d e f : h ? a b c d e / k ? f / m ? a b c d e f")
        for call, more in CALLS:
            self.assert_raises(Misfit("sights"), call, Task(net, "a"), *more)

    def test_places_ahead_of_what_is_impossible(self):
        self.assert_raises(TooMany("places", 8), form_of, Task(NINE.net, "a"))

    def test_what_is_no_form(self):
        for value in wrong_values() + [FORM[0], FORM[::-1], FORM[:1], (*FORM, FORM[0]), [FORM[0], None]]:
            with self.subTest(value=value):
                for call in (sound, faithful):
                    self.assert_raises(BadForm("form"), call, FREE, value)
                self.assert_raises(BadForm("form"), comes_of, FREE, value, FILLING)
                self.assert_raises(BadForm("form"), comes_of, FREE, value, None)
        for value in wrong_tables():
            self.assert_raises(BadForm("form"), sound, FREE, [FORM[0], value])
            self.assert_raises(BadForm("form"), comes_of, FREE, [FORM[0], value], None)
            self.assert_raises(BadForm("form"), faithful, BLIND, [value, value])

    def test_what_is_no_filling(self):
        for value in wrong_values() + [FILLING[0], FILLING[::-1], FILLING[:1], (*FILLING, FILLING[0]), FORM]:
            with self.subTest(value=value):
                self.assert_raises(BadFilling("free"), comes_of, FREE, FORM, value)
        for value in wrong_tables():
            self.assert_raises(BadFilling("free"), comes_of, FREE, FORM, [FILLING[0], value])


class Facts(Told):
    def test_what_comes_at_a_row_hangs_on_the_choice_put_in_there(self):
        chooser = random.Random(80)
        for task in TASKS:
            made = DrawnForms(task)
            form, free = made.any_form(chooser), some_filling(chooser, task.net)
            comes = comes_of(task, form, free)
            for row in range(task.many):
                self.assertEqual(task.choice(comes, row), made.choice_of(form, row, task.choice(free, row)))

    def test_as_many_fillings_come_of_the_form_as_there_are(self):
        for task in TASKS[:60]:
            if plan(task):
                form = form_of(task)
                come = {comes_of(task, form, free) for free in Drawn(task).plain_fillings()}
                self.assertEqual(len(come), how_many(task))


class NothingIsChanged(Told):
    def test_what_is_passed_stays(self):
        form, free = [list(table) for table in FORM], [list(table) for table in FILLING]
        before = (str(FREE.net), FREE.wish, FREE.sights, repr(form), repr(free))
        is_form(FREE, form), comes_of(FREE, form, free), sound(FREE, form), faithful(FREE, form), form_of(FREE)
        for call, more in CALLS:
            for task in (FREE, BLIND, APART, NINE):
                try:
                    call(task, *more)
                except ValueError:
                    pass
        self.assertEqual((str(FREE.net), FREE.wish, FREE.sights, repr(form), repr(free)), before)

    def test_equal_tasks_get_equal_answers(self):
        chooser = random.Random(81)
        for task in TASKS[:60]:
            again = Task(Net.read(str(task.net)), task.wish)
            form = DrawnForms(task).any_form(chooser)
            self.assertEqual((sound(again, form), faithful(again, form)), (sound(task, form), faithful(task, form)))
            if plan(task):
                self.assertEqual(form_of(again), form_of(task))


class ShortTimes(Told):
    def test_the_greatest_tasks(self):
        begin = time.process_time()
        chooser = random.Random(82)
        inputs = " ".join(NAMES_OF_INPUTS)
        for often in (0.7, 0.9, 1):
            signs = ["".join(str(int(chooser.random() < often)) for _ in range(64)) for _ in range(3)]
            for sights in (
                ("a b c d",) * 4, ("d c b a", "a b c", "", "a"), ("",) * 4, ("a b c d", "b c", "c", "d c b a"),
            ):
                holes = " / ".join(f"{name} ? {sight}".strip() for name, sight in zip("hkmn", sights))
                task = Task(Net.read(
                    f"{inputs} : {holes} / x {signs[0]} a b h k m n / y {signs[1]} c d h k m n"
                    f" / z {signs[2]} e f h k m n / out 01111111 x y z"
                ), "out")
                made = DrawnForms(task)
                forms = [made.own(), made.any_form(chooser)] + ([form_of(task)] if plan(task) else [])
                for form in forms:
                    comes_of(task, form, some_filling(chooser, task.net))
                    self.assertIs(shows_sound(task, form, sound(task, form)), True)
                    self.assertIs(shows_faithful(task, form, faithful(task, form)), True)
        self.assertLess(time.process_time() - begin, 10)
