"""What rows ask, the parts of tasks, and the facts about them."""

import itertools
import time

from holegates import parting as module
from holegates.errors import BadTask, NoRow
from holegates.nets import Net
from holegates.parting import asks, parts_of
from holegates.tasks import Task
from tests.support import (
    NAMES_OF_INPUTS, Drawn, Told, greatest_net, nested_tasks, settings, some_tasks, told_task, wrong_numbers,
    wrong_values,
)

TASK = Task(Net.read("a b : n 10 a / h ? a n / k ? b / x 0110 h k / out 0111 x a"), "out")
TASKS = [
    *some_tasks(100, 21), *some_tasks(60, 22, most_inputs=4, most_gates=9, most_holes=4), *nested_tasks(60, 23),
]


def drawn_parts(task):
    """The parts as point 6 tells them: from each row all rows that can be come to, by unknowns asked."""
    drawn = Drawn(task)
    asked = [{drawn.unknown(hole, row) for hole in drawn.asked(row)} for row in range(drawn.many)]
    found = set()
    for first in range(drawn.many):
        together, more = {first}, [first]
        while more:
            row = more.pop()
            near = [other for other in range(drawn.many) if other not in together and asked[row] & asked[other]]
            together.update(near)
            more.extend(near)
        found.add((tuple(sorted(together)), tuple(sorted(set().union(*[asked[row] for row in together])))))
    return tuple(sorted(found))


class WhatRowsAsk(Told):
    def test_as_the_drawing_tells(self):
        for task in TASKS:
            drawn = Drawn(task)
            for row in range(drawn.many):
                expected = tuple(sorted(set(drawn.asked(row))))
                self.assert_same(asks(task, row), expected)
                self.assert_same(asks(row=row, task=task), expected)

    def test_no_holes(self):
        task = Task(Net.read("a b : x 0111 a b"), "x")
        self.assert_same([asks(task, row) for row in range(4)], [(), (), (), ()])

    def test_one_hole(self):
        task = Task(Net.read("a b : h ? a / x 0111 b h"), "x")
        self.assert_same([asks(task, row) for row in range(4)], [(0,), (), (0,), ()])

    def test_four_holes(self):
        net = Net.read("a : h ? / k ? a / m ? / n ? / x 0110 h k / y 0110 x m / z 0110 y n / out 0111 a z")
        task = Task(net, "out")
        self.assert_same([asks(task, row) for row in (0, 1)], [(0, 1, 2, 3), ()])

    def test_a_hole_that_stands_beside_the_wish(self):
        task = Task(Net.read("a b : h ? a / k ? b / out 01 h"), "out")
        self.assert_same([asks(task, row) for row in range(4)], [(0,)] * 4)

    def test_a_hole_is_asked_if_it_matters_with_some_right_choice(self):
        # With k 1 the sign of h does not matter, with k 0 it does; with m 1 no choice is right.
        task = told_task(1, [("h", ()), ("k", ()), ("m", ())], lambda setting, choice: choice in ((1, 0, 0), (0, 1, 0)))
        self.assert_same(asks(task, 0), (0, 1, 2))
        task = told_task(1, [("h", ()), ("k", ())], lambda setting, choice: choice != (0, 0))
        self.assert_same(asks(task, 1), (0, 1))
        task = told_task(1, [("h", ()), ("k", ())], lambda setting, choice: choice[1] == 1)
        self.assert_same(asks(task, 1), (1,))

    def test_wishes_that_are_inputs_sure_gates_and_holes(self):
        net = Net.read("a : n 10 a / h ? a / k ? n / x 0001 h k")
        self.assert_same([asks(Task(net, wish), row) for wish in ("a", "n") for row in (0, 1)], [()] * 4)
        self.assert_same([asks(Task(net, wish), 1) for wish in ("h", "k", "x")], [(0,), (1,), (0, 1)])

    def test_lost_rows_and_rows_where_all_is_right_ask_nothing(self):
        task = told_task(2, [("h", ("a",)), ("k", ())], lambda setting, choice: setting[0])
        self.assert_same([asks(task, row) for row in range(4)], [()] * 4)

    def test_wrong_arguments(self):
        for value in wrong_values() + [TASK.net, str(TASK.net)]:
            with self.subTest(value=value):
                self.assert_raises(BadTask("task"), asks, value, 0)
                self.assert_raises(BadTask("task"), asks, value, 4)
                self.assert_raises(BadTask("task"), asks, value, None)
        for value in wrong_numbers(0, 3):
            with self.subTest(value=value):
                self.assert_raises(NoRow(value), asks, TASK, value)


class Parts(Told):
    def test_as_the_drawing_tells(self):
        for task in TASKS:
            expected = drawn_parts(task)
            self.assert_same(parts_of(task), expected)
            self.assert_same(parts_of(task=task), expected)

    def test_many_kinds_of_parts_are_among_them(self):
        parts = [part for task in TASKS for part in parts_of(task)]
        self.assertTrue([rows for rows, unknowns in parts if not unknowns])
        self.assertTrue([rows for rows, unknowns in parts if len(rows) == 1 and len(unknowns) > 2])
        self.assertTrue([rows for rows, unknowns in parts if len(rows) > 4 and len(unknowns) > 4])

    def test_no_holes(self):
        task = Task(Net.read("a b : x 0111 a b"), "x")
        self.assert_same(parts_of(task), tuple(((row,), ()) for row in range(4)))

    def test_rows_that_ask_nothing_are_parts_by_themselves(self):
        # Rows 0 and 3 are lost, at rows 1 and 6 all choices are right; all see the one view of h.
        rows = {0: (), 1: (0, 1), 3: (), 6: (0, 1)}
        task = told_task(
            3, [("h", ())], lambda setting, choice: choice[0] in rows.get(int("".join(map(str, setting)), 2), (1,)),
        )
        self.assert_same(
            parts_of(task),
            (((0,), ()), ((1,), ()), ((2, 4, 5, 7), ((0, 0),)), ((3,), ()), ((6,), ())),
        )

    def test_a_row_that_joins_what_had_nothing_in_common(self):
        # Only the last row asks both holes; the ones ahead ask one each.
        def is_right(setting, choice):
            return {(0, 0): choice[0], (0, 1): choice[1], (1, 0): 1, (1, 1): choice[0] ^ choice[1]}[setting]

        task = told_task(2, [("h", ()), ("k", ())], is_right)
        self.assert_same(parts_of(task), (((0, 1, 3), ((0, 0), (1, 0))), ((2,), ())))

    def test_rows_hang_together_through_a_third_one(self):
        # Each row has its own view of h and k, but for the ones that share a or b.
        task = told_task(2, [("h", ("a",)), ("k", ("b",))], lambda setting, choice: choice[0] == choice[1])
        self.assert_same(parts_of(task), (((0, 1, 2, 3), ((0, 0), (0, 1), (1, 0), (1, 1))),))
        task = told_task(2, [("h", ("a",)), ("k", ("a", "b"))], lambda setting, choice: choice[0] == choice[1])
        self.assert_same(
            parts_of(task), (((0, 1), ((0, 0), (1, 0), (1, 1))), ((2, 3), ((0, 1), (1, 2), (1, 3)))),
        )

    def test_rows_with_a_common_unknown_that_one_of_them_does_not_ask(self):
        task = told_task(1, [("h", ())], lambda setting, choice: setting[0] or choice[0])
        self.assert_same(parts_of(task), (((0,), ((0, 0),)), ((1,), ())))

    def test_wrong_arguments(self):
        for value in wrong_values() + [TASK.net, str(TASK.net)]:
            with self.subTest(value=value):
                self.assert_raises(BadTask("task"), parts_of, value)


class Facts(Told):
    def test_right_or_not_hangs_on_the_holes_asked_alone(self):
        for task in TASKS:
            for row in range(task.many):
                asked, right = asks(task, row), task.right_choices(row)
                for one, other in itertools.product(settings(len(task.holes)), repeat=2):
                    if all(one[hole] == other[hole] for hole in asked):
                        self.assertEqual(one in right, other in right)

    def test_each_row_and_each_unknown_asked_stands_in_one_part(self):
        for task in TASKS:
            parts = parts_of(task)
            self.assertEqual(sorted(row for rows, _ in parts for row in rows), list(range(task.many)))
            unknowns = [unknown for _, some in parts for unknown in some]
            self.assertEqual(len(unknowns), len(set(unknowns)))
            self.assertLessEqual(set(unknowns), set(task.unknowns()))

    def test_tasks_are_filled_part_by_part(self):
        for task in nested_tasks(40, 24) + [task for task in TASKS[:100] if len(task.unknowns()) < 9]:
            drawn = Drawn(task)
            parts = parts_of(task)
            total = 1
            for rows, unknowns in parts:
                served = [signs for signs in settings(len(unknowns)) if self.serves(drawn, rows, unknowns, signs)]
                total *= len(served)
            free = len(task.unknowns()) - sum(len(unknowns) for _, unknowns in parts)
            self.assertEqual(total * 2 ** free, len(drawn.right_fillings()))

    def serves(self, drawn, rows, unknowns, signs):
        filling = drawn.filling(dict(zip(unknowns, signs)))
        return all(drawn.choice(filling, row) in drawn.right[row] for row in rows)

    def test_lost_rows_are_parts_that_nothing_fills(self):
        for task in TASKS:
            for row in range(task.many):
                if len(task.right_choices(row)) in (0, 2 ** len(task.holes)):
                    self.assertEqual(asks(task, row), ())
                    self.assertIn(((row,), ()), parts_of(task))


class WhatIsThere(Told):
    def test_the_functions_are_defined_in_this_file(self):
        for name in ("asks", "parts_of"):
            self.assertEqual(getattr(module, name).__module__, "holegates.parting")

    def test_nothing_is_changed_and_answers_are_told_again(self):
        for task in TASKS[:30]:
            before = (str(task.net), task.wish, task.many, task.holes, task.sights, task.unknowns())
            first = ([asks(task, row) for row in range(task.many)], parts_of(task))
            again = Task(Net.read(str(task.net)), task.wish)
            self.assert_same(([asks(again, row) for row in range(task.many)], parts_of(again)), first)
            self.assertRaises(ValueError, asks, task, task.many)
            self.assert_same((str(task.net), task.wish, task.many, task.holes, task.sights, task.unknowns()), before)

    def test_the_greatest_tasks_in_a_short_time(self):
        begin = time.process_time()
        net = greatest_net()
        for wish in net.wires[-3:]:
            parts_of(Task(net, wish))
        inputs = " ".join(NAMES_OF_INPUTS)
        sums = "x 0110 h k / y 0110 x m / out 0110 y n"
        wide = f"{inputs} : h ? {inputs} / k ? {inputs} / m ? {inputs} / n ? {inputs} / {sums}"
        self.assertEqual(len(parts_of(Task(Net.read(wide), "out"))), 64)
        narrow = f"{inputs} : h ? / k ? a b c / m ? d e f / n ? {inputs} / {sums}"
        self.assertEqual(len(parts_of(Task(Net.read(narrow), "out"))), 1)
        self.assertLess(time.process_time() - begin, 4)
