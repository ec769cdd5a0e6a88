"""Tasks whose holes see any wires: settled or refused, against trying all plain fillings, and the facts about them."""

import itertools
import random
import time

from holegates import ladders, single
from holegates import unlike as module
from holegates.errors import BadTask, Misfit, TooMany
from holegates.nets import Net
from holegates.papers import Denial, Paper
from holegates.single import between
from holegates.tasks import Task
from holegates.unlike import Refused, Settled, how_many, settle
from tests.support import (
    NAMES_OF_INPUTS, Drawn, Told, greatest_net, is_refusing, nested_tasks, one_hole_tasks, told_task, unlike_tasks,
    wrong_values,
)

HALVES = Task(Net.read("a b : h ? a / k ? b / x 0110 h k / w 0001 a b / out 1001 x w"), "out")
MIDDLE = Task(Net.read("a b c : h ? a b / k ? b c / out 1001 h k"), "out")
NO_HOLE = Task(Net.read("a : x 01 a"), "x")
WIDE = Task(Net.read("a b c d : h ? a b c d / out 01 h"), "out")
TASKS = unlike_tasks(260, 101)
CALLS = (settle, how_many)


def side_by_side(one, other):
    """The task whose wish is that of both, of nets with names of their own."""
    gates = []
    inputs = []
    for task, mark in ((one, "p"), (other, "q")):
        inputs += [mark + name for name in task.net.inputs]
        gates += [(mark + name, [mark + source for source in ahead], table) for name, ahead, table in task.net.gates]
    gates.append(("both", ("p" + one.wish, "q" + other.wish), (0, 0, 0, 1)))
    return Task(Net(inputs, gates), "both")


def rank_of(rows):
    """The rank of rows told as integers, their bits being added without carrying."""
    found = []
    for row in rows:
        for base in found:
            row = min(row, row ^ base)
        if row:
            found.append(row)
    return len(found)


def parity_task(inputs, sights, wire):
    """The task that of the holes and the wire an even number be 1."""
    holes = [(f"h{at}", sight) for at, sight in enumerate(sights)]
    gates = [(f"n{at}", (name,), (1, 0)) for at, name in enumerate(NAMES_OF_INPUTS[:inputs])]
    gates += [(name, sight, None) for name, sight in holes]
    names = [name for name, _ in holes] + [wire]
    odd = [sum(signs) % 2 for signs in itertools.product((0, 1), repeat=len(names))]
    return Task(Net(NAMES_OF_INPUTS[:inputs], [*gates, ("out", names, [1 - sign for sign in odd])]), "out")


def all_ones(holes):
    """Six inputs, and holes that shall all be 1."""
    names = [name for name, _ in holes]
    gates = [(name, tuple(sight), None) for name, sight in holes]
    return Task(Net(NAMES_OF_INPUTS, [*gates, ("out", names, [0] * (2 ** len(names) - 1) + [1])]), "out")


class Papers(Told):
    def test_settled(self):
        for paper in (Settled([[0, 1], (1, 1)]), Settled(filling=((0, 1), [1, 1]))):
            self.assertIsInstance(paper, Paper)
            self.assertNotIsInstance(paper, Denial)
            self.assert_same((paper.word, paper.parts), ("settled", (((0, 1), (1, 1)),)))
            self.assert_same((paper.filling, bool(paper)), (((0, 1), (1, 1)), True))
        self.assertEqual(Settled([[0]]), Settled(((0,),)))
        self.assertNotEqual(Settled([[0]]), Settled([[1]]))

    def test_refused(self):
        for paper in (Refused([0, 1, 2, [1, 0, 3, 0]]), Refused(tree=(0, 1, 2, (1, 0, 3, 0)))):
            self.assertIsInstance(paper, Denial)
            self.assert_same((paper.word, paper.parts), ("refused", ((0, 1, 2, (1, 0, 3, 0)),)))
            self.assert_same((paper.tree, bool(paper)), ((0, 1, 2, (1, 0, 3, 0)), False))
        self.assertEqual(Refused(3), Refused(3))
        self.assertNotEqual(Refused(3), Refused(2))
        self.assertNotEqual(Refused(3), Settled(3))

    def test_any_values(self):
        for value in wrong_values():
            if not isinstance(value, list):
                self.assertIs(Settled(value).filling, value)
                self.assertIs(Refused(value).tree, value)

    def test_they_are_defined_in_this_file(self):
        for name in ("Settled", "Refused", "settle", "how_many"):
            self.assertEqual(getattr(module, name).__module__, "holegates.unlike")


class AgainstTryingAll(Told):
    def test_settled_or_refused(self):
        found = {"settled": 0, "refused": 0}
        for task in TASKS:
            drawn = Drawn(task)
            right = drawn.right_fillings()
            paper = settle(task)
            found[paper.word] += 1
            self.assertIs(type(paper), Settled if right else Refused)
            if right:
                self.assertIn(paper.filling, right)
            else:
                self.assertTrue(is_refusing(drawn, paper.tree))
            self.assertEqual(settle(task=task), paper)
        self.assertGreater(min(found.values()), 60)

    def test_how_many(self):
        for task in TASKS:
            many = len(Drawn(task).right_fillings())
            self.assert_same(how_many(task), many)
            self.assert_same(how_many(task=task), many)

    def test_unknowns_that_no_row_asks(self):
        loose = 0
        for task in TASKS:
            drawn = Drawn(task)
            asked = drawn.asked_unknowns()
            if len(asked) == len(drawn.unknowns) or not how_many(task):
                continue
            loose += 1
            filling = settle(task).filling
            for hole, view in drawn.unknowns:
                if (hole, view) not in asked:
                    other = [list(table) for table in filling]
                    other[hole][view] = 1 - other[hole][view]
                    self.assertTrue(task.is_right(other))
        self.assertGreater(loose, 40)


class Edges(Told):
    def test_a_lost_row(self):
        task = told_task(2, [("h", ("a",)), ("k", ("b",))], lambda setting, choice: setting != (1, 0))
        self.assertEqual(settle(task), Refused(2))
        self.assert_same(how_many(task), 0)

    def test_a_lost_row_behind_rows_that_can_be_settled(self):
        task = told_task(2, [("h", ("a",))], lambda setting, choice: setting != (1, 1) and choice[0] == setting[0])
        self.assertEqual(settle(task), Refused(3))

    def test_no_row_asks_anything(self):
        net = Net.read("a b : n 11 a / h ? a / k ? a b / x 0001 a h")
        self.assertEqual([how_many(Task(net, wish)) for wish in ("n", "a", "b")], [64, 0, 0])
        self.assertEqual(settle(Task(net, "n")), settle(Task(net, "n")))
        self.assertTrue(Task(net, "n").is_right(settle(Task(net, "n")).filling))
        self.assertEqual(settle(Task(net, "a")), Refused(0))

    def test_views_that_no_row_has(self):
        task = Task(Net.read("a : n 10 a / h ? a n / k ? n / x 0111 h k / out 0001 x h"), "out")
        self.assertEqual(settle(task).filling[0], (0, 1, 1, 0))
        self.assertEqual(how_many(task), 4)

    def test_wishes_that_are_holes(self):
        net = Net.read("a b : h ? a / k ? b")
        self.assertEqual(settle(Task(net, "h")).filling[0], (1, 1))
        self.assertEqual(how_many(Task(net, "h")), 4)

    def test_holes_without_sources(self):
        task = told_task(1, [("h", ()), ("k", ())], lambda setting, choice: choice == (setting[0], 1))
        self.assertIs(type(settle(task)), Refused)
        task = told_task(1, [("h", ()), ("k", ())], lambda setting, choice: choice == (0, 1))
        self.assertEqual(settle(task), Settled([[0], [1]]))
        self.assertEqual(how_many(task), 1)

    def test_just_twelve_unknowns_and_thirteen(self):
        # h has eight views, k four, m one or two; each of them is asked.
        for last, many in (("", 13), ("f", 14)):
            task = all_ones([("h", "abc"), ("k", "de"), ("m", last)])
            self.assertEqual(len(Drawn(task).asked_unknowns()), many)
            for call in CALLS:
                self.assert_raises(TooMany("unknowns", 12), call, task)
        task = all_ones([("h", "abc"), ("k", "de")])
        self.assertEqual(len(Drawn(task).asked_unknowns()), 12)
        self.assertTrue(settle(task))
        self.assertEqual(how_many(task), 1)

    def test_unknowns_that_no_row_asks_do_not_count(self):
        inputs = " ".join(NAMES_OF_INPUTS)
        net = Net.read(f"{inputs} : h ? a b c / k ? d e / m ? {inputs} / x 0111 h k / out 01 x")
        task = Task(net, "out")
        self.assertEqual(len(task.unknowns()), 8 + 4 + 64)
        # Of the fillings of h and k each h that is not all 1 needs k all 1.
        self.assert_same(how_many(task), (2 ** 8 - 1 + 2 ** 4) * 2 ** 64)
        self.assertTrue(task.is_right(settle(task).filling))
        self.assert_raises(TooMany("unknowns", 12), settle, Task(net, "m"))

    def test_lost_rows_do_not_help_where_there_are_too_many(self):
        task = told_task(4, [("h", tuple("abcd"))], lambda setting, choice: setting[:2] != (0, 0) and choice[0])
        self.assertEqual(len(Drawn(task).asked_unknowns()), 12)
        self.assertEqual(settle(task), Refused(0))
        task = told_task(4, [("h", tuple("abcd"))], lambda setting, choice: setting != (0, 0, 0, 0) and choice[0])
        self.assert_raises(TooMany("unknowns", 12), settle, task)
        self.assert_raises(TooMany("unknowns", 12), how_many, task)


class WrongArguments(Told):
    def test_what_is_no_task(self):
        for value in wrong_values() + [HALVES.net, str(HALVES.net), settle(HALVES)]:
            for call in CALLS:
                with self.subTest(value=value, call=call):
                    self.assert_raises(BadTask("task"), call, value)

    def test_tasks_without_holes(self):
        for task in (NO_HOLE, Task(Net(["a"], []), "a"), Task(Net.read("a b c d e f : x 01 f"), "x")):
            for call in CALLS:
                self.assert_raises(Misfit("holes"), call, task)

    def test_too_many_unknowns(self):
        for call in CALLS:
            self.assert_raises(TooMany("unknowns", 12), call, WIDE)


class Facts(Told):
    def test_either_settled_or_refused_by_its_own_tree_alone(self):
        for task in TASKS[:120]:
            drawn = Drawn(task)
            if drawn.right_fillings():
                for tree in [*range(drawn.many), (0, drawn.views[0][0], 0, drawn.many - 1)]:
                    self.assertFalse(is_refusing(drawn, tree))

    def test_two_nets_side_by_side(self):
        small = [task for task in unlike_tasks(120, 102, most_unknowns=5) if len(task.net.inputs) < 4]
        chooser = random.Random(103)
        kinds = set()
        for _ in range(120):
            one, other = chooser.sample(small, 2)
            if len(one.net.inputs) + len(other.net.inputs) > 6 or len(one.holes) + len(other.holes) > 4:
                continue
            if len(one.net.gates) + len(other.net.gates) > 23:
                continue
            task = side_by_side(one, other)
            self.assert_same(how_many(task), how_many(one) * how_many(other))
            self.assertIs(bool(settle(task)), bool(settle(one)) and bool(settle(other)))
            kinds.add((bool(settle(one)), bool(settle(other))))
        self.assertEqual(len(kinds), 4)

    def test_an_unknown_that_no_row_asks_makes_them_twice_as_many(self):
        for task in TASKS[:100]:
            if len(task.holes) == 4 or len(task.net.gates) == 24:
                continue
            for sources, more in (((), 1), (task.net.inputs[:1], 2), (task.net.inputs, task.many)):
                gates = [("loose", sources, None), *task.net.gates]
                wider = Task(Net(task.net.inputs, gates), task.wish)
                self.assert_same(how_many(wider), how_many(task) << more)
                self.assertIs(bool(settle(wider)), bool(settle(task)))

    def test_an_even_number_of_holes_and_a_wire(self):
        chooser = random.Random(104)
        found = {True: 0, False: 0}
        for _ in range(150):
            inputs = chooser.randint(1, 4)
            wires = [*NAMES_OF_INPUTS[:inputs], *[f"n{at}" for at in range(inputs)]]
            sights = [chooser.sample(wires, chooser.randint(0, 2)) for _ in range(chooser.randint(1, 4))]
            task = parity_task(inputs, sights, chooser.choice(wires))
            drawn = Drawn(task)
            if len(drawn.unknowns) > 12:
                continue
            sums = [sum(1 << drawn.unknowns.index(drawn.unknown(hole, row)) for hole in drawn.holes)
                    for row in range(drawn.many)]
            told = [sum(drawn.right[row][0]) % 2 << len(drawn.unknowns) for row in range(drawn.many)]
            rank = rank_of(sums)
            fits = rank_of([one | sign for one, sign in zip(sums, told)]) == rank
            found[fits] += 1
            self.assert_same(how_many(task), 2 ** (len(drawn.unknowns) - rank) if fits else 0)
            self.assertIs(bool(settle(task)), fits)
        self.assertGreater(min(found.values()), 30)

    def test_inputs_holes_and_wishes_turned_about(self):
        # h sees one input, k the other one; h and k are to be unlike exactly where both are 1: never to be had.
        for sources, mark in itertools.product((("a", "b"), ("b", "a")), itertools.product((0, 1), repeat=2)):
            def is_right(setting, choice, mark=mark):
                return (choice[0] != choice[1]) == (setting == mark)

            task = told_task(2, [("h", sources[:1]), ("k", sources[1:])], is_right)
            self.assertIs(type(settle(task)), Refused)
            self.assertTrue(is_refusing(Drawn(task), settle(task).tree))
            self.assert_same(how_many(task), 0)

    def test_with_more_sources_what_could_be_settled_still_can(self):
        chooser = random.Random(105)
        many = 0
        for task in TASKS:
            hole = chooser.randrange(len(task.holes))
            name, sight = task.holes[hole], task.sights[hole]
            ahead = task.net.wires[:task.net.wires.index(name)]
            more = [wire for wire in ahead if wire not in sight and task.net.is_sure(wire)]
            if not settle(task) or not more:
                continue
            many += 1
            wider = Task(task.net.struck(name, [*sight, chooser.choice(more)]), task.wish)
            self.assertIs(type(settle(wider)), Settled)
            told = list(settle(task).filling)
            told[hole] = [sign for sign in told[hole] for _ in (0, 1)]
            self.assertIs(wider.is_right(told), True)
        self.assertGreater(many, 60)

    def test_more_tables_put_in(self):
        for task in TASKS[:100]:
            paper = settle(task)
            if paper and len(task.holes) > 1:
                rest = task.with_hole(0, paper.filling[0])
                self.assertTrue(rest.is_right(paper.filling[1:]))
                self.assertTrue(settle(rest))


class TakenByAllParts(Told):
    def test_one_hole(self):
        for task in one_hole_tasks(150, 106):
            self.assertIs(bool(settle(task)), bool(between(task)))
            self.assertEqual(how_many(task), single.how_many(task))
            self.assertEqual(how_many(task), ladders.how_many(task))
            if settle(task):
                single.number_of(task, settle(task).filling[0])

    def test_nested_sights(self):
        for task in nested_tasks(150, 107):
            self.assertIs(bool(settle(task)), bool(ladders.plan(task)))
            self.assertEqual(how_many(task), ladders.how_many(task))


class NothingIsChanged(Told):
    def test_tasks_stay_and_equal_ones_get_equal_answers(self):
        for task in TASKS[:80]:
            before = (str(task.net), task.wish, task.many, task.holes, task.sights)
            answers = (settle(task), how_many(task))
            again = Task(Net.read(str(task.net)), task.wish)
            self.assertEqual((settle(again), how_many(again)), answers)
            self.assert_same((str(task.net), task.wish, task.many, task.holes, task.sights), before)


class ShortTimes(Told):
    def greatest(self, sights, often, seed):
        """A task of six inputs: three gates of random signs, and all of them shall be 1."""
        chooser = random.Random(seed)
        inputs = " ".join(NAMES_OF_INPUTS)
        signs = ["".join(str(int(chooser.random() < often)) for _ in range(64)) for _ in range(3)]
        holes = " / ".join(f"{name} ? {sight}".strip() for name, sight in zip("hkmn", sights))
        return Task(Net.read(
            f"{inputs} : {holes} / x {signs[0]} a b h k m n / y {signs[1]} c d h k m n"
            f" / z {signs[2]} e f h k m n / out 00000001 x y z"
        ), "out")

    def test_twelve_unknowns(self):
        begin = time.process_time()
        for sights in (("a b", "c d", "e", "f"), ("a b", "b", "c d", "a"), ("a b c", "d", "e", "")):
            for seed, often in enumerate((0.6, 0.7, 0.8, 0.9, 0.95, 0.98)):
                task = self.greatest(sights, often, seed)
                self.assertLessEqual(len(task.unknowns()), 13)
                try:
                    self.assertIs(bool(settle(task)), how_many(task) > 0)
                except TooMany:
                    self.assertEqual(len(task.unknowns()), 13)
        self.assertLess(time.process_time() - begin, 5)

    def test_long_ways(self):
        begin = time.process_time()
        # Of four holes that see one or two inputs each an even number shall be 1, but where all inputs are.
        names = "a b c d e f : h ? a b / k ? c d / m ? e / n ? f"
        ones = "0" * 63 + "1"
        signs = "x 0110 h k / y 0110 m n / z 0110 x y / out 1001 z w"
        task = Task(Net.read(f"{names} / w {ones} a b c d e f / {signs}"), "out")
        self.assertEqual(len(task.unknowns()), 12)
        self.assertIs(type(settle(task)), Refused)
        self.assertTrue(is_refusing(Drawn(task), settle(task).tree))
        even = Task(task.net, "z")
        self.assert_same(how_many(even), 8)
        self.assertTrue(even.is_right(settle(even).filling))
        self.assertLess(time.process_time() - begin, 5)

    def test_the_greatest_net(self):
        begin = time.process_time()
        net = greatest_net()
        for hole in net.holes:
            net = net.struck(hole, net.inputs[:2])
        for wish in net.wires[-4:]:
            for call in CALLS:
                try:
                    call(Task(net, wish))
                except TooMany:
                    pass
        self.assertLess(time.process_time() - begin, 5)
