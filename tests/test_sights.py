"""Which wires a hole must see: against all tables of them, and the facts about tight lots."""

import itertools
import random
import time

from holegates import sights as module
from holegates.errors import BadTask, Misfit, NoWire, TooMany, Twice
from holegates.nets import Net
from holegates.papers import Denial, Paper
from holegates.sights import Enough, Short, apart, enough, needed, tight_sights
from holegates.single import between
from holegates.tasks import Task
from tests.support import (
    HUGE, NAMES_OF_INPUTS, Drawn, EqualsAll, Told, drawn_sign, greatest_net, no_names, settings, some_tasks, tables,
    wrong_values,
)

NET = Net.read("a b c : w 0001 a b / h ? a / out 1001 h w")
TASK = Task(NET, "out")
NO_HOLE = Task(Net.read("a b c d e f : x 01 a / y 10 a / z 11 a"), "x")
TWO_HOLES = Task(Net.read("a b c d e f : h ? a / k ? b / x 0110 h k / y 01 a / z 01 b / u 01 c"), "x")
CALLS = (enough, tight_sights, needed)


def one_hole_nets(many, seed):
    """Many small tasks with one hole, with sure gates ahead of it and behind it."""
    chooser = random.Random(seed)
    found = [task for task in some_tasks(2 * many, seed, most_gates=7, most_holes=1) if len(task.holes) == 1]
    found = found[:many // 3]
    while len(found) < many:
        inputs = chooser.randint(1, 3)
        names = list(NAMES_OF_INPUTS[:inputs])
        gates = []
        for at in range(chooser.randint(0, 3)):
            ahead = chooser.sample(names, chooser.randint(0, min(2, len(names))))
            gates.append((f"g{at}", ahead, tuple(chooser.randrange(2) for _ in range(2 ** len(ahead)))))
            names.append(f"g{at}")
        sources = NAMES_OF_INPUTS[:inputs]
        # At each row anything, 0 or 1 is right, or nothing.
        weights = (4, 8, 8, chooser.choice((0, 0, 1)))
        kinds = chooser.choices(((1, 1), (1, 0), (0, 1), (0, 0)), weights=weights, k=2 ** inputs)
        signs = [sign for kind in kinds for sign in kind]
        place = chooser.randint(0, len(gates))
        gates.insert(place, ("h", chooser.sample(sources, chooser.randint(0, inputs)), None))
        found.append(Task(Net(NAMES_OF_INPUTS[:inputs], [*gates, ("out", (*sources, "h"), signs)]), "out"))
    return found


TASKS = one_hole_nets(150, 131)


class DrawnSights:
    """What the wires of a task with one hole tell, read as point 11 tells it."""

    def __init__(self, task):
        drawn = Drawn(task)
        self.rows = range(drawn.many)
        self.right = drawn.right
        self.sure = [name for name in task.net.wires if task.net.is_sure(name)]
        self.signs = {
            name: [drawn_sign(task.net, setting, (0,), name) for setting in settings(len(task.net.inputs))]
            for name in self.sure
        }

    def setting(self, row, wires):
        return tuple(self.signs[name][row] for name in wires)

    def apart(self):
        return [
            (one, other) for one in self.rows for other in self.rows
            if (0,) not in self.right[one] and (1,) not in self.right[other]
        ]

    def serves(self, table, wires):
        """Whether a gate with these sources and this table could stand in the hole."""
        signs = dict(zip(settings(len(wires)), table))
        return all((signs[self.setting(row, wires)],) in self.right[row] for row in self.rows)

    def are_enough(self, wires):
        return any(self.serves(table, wires) for table in tables(len(wires)))

    def tight(self, wires):
        """All tight lots, by trying all lots."""
        names = [name for name in self.sure if name in wires]
        lots = [lot for many in range(len(names) + 1) for lot in itertools.combinations(names, many)]
        good = [lot for lot in lots if not any(
            self.setting(one, lot) == self.setting(other, lot) for one, other in self.apart()
        )]
        return tuple(lot for lot in good if not any(
            tuple(name for name in lot if name != left) in good for left in lot
        ))


def some_wires(chooser, made, most):
    return chooser.sample(made.sure, chooser.randint(0, min(most, len(made.sure))))


class Papers(Told):
    def test_enough(self):
        for paper in (Enough([0, 1]), Enough(table=(0, 1))):
            self.assertIsInstance(paper, Paper)
            self.assertNotIsInstance(paper, Denial)
            self.assert_same((paper.word, paper.parts, paper.table), ("enough", ((0, 1),), (0, 1)))
            self.assertIs(bool(paper), True)
        self.assertEqual(Enough([0, 1]), Enough((0, 1)))
        self.assertNotEqual(Enough([0, 1]), Enough((1, 0)))

    def test_short(self):
        for paper in (Short(3, 1), Short(other=1, one=3)):
            self.assertIsInstance(paper, Denial)
            self.assert_same((paper.word, paper.parts, paper.one, paper.other), ("short", (3, 1), 3, 1))
            self.assertIs(bool(paper), False)
        self.assertEqual(Short(3, 1), Short(3, 1))
        self.assertNotEqual(Short(3, 1), Short(1, 3))
        self.assertNotEqual(Short(3, 1), Enough((3, 1)))

    def test_any_values(self):
        for value in wrong_values():
            if not isinstance(value, list):
                self.assertIs(Enough(value).table, value)
                self.assertIs(Short(value, 0).one, value)
                self.assertIs(Short(0, value).other, value)

    def test_they_are_defined_in_this_file(self):
        for name in ("Enough", "Short", "apart", "enough", "tight_sights", "needed"):
            self.assertEqual(getattr(module, name).__module__, "holegates.sights")


class AgainstTryingAll(Told):
    def test_apart(self):
        for task in TASKS:
            expected = tuple(DrawnSights(task).apart())
            self.assert_same(apart(task), expected)
            self.assert_same(apart(task=task), expected)

    def test_enough_or_short(self):
        chooser = random.Random(132)
        found = {"enough": 0, "short": 0}
        for task in TASKS:
            made = DrawnSights(task)
            for _ in range(3):
                wires = some_wires(chooser, made, 3)
                paper = enough(task, wires)
                found[paper.word] += 1
                self.assertIs(type(paper), Enough if made.are_enough(wires) else Short)
                if paper:
                    ones = {made.setting(row, wires) for row in made.rows if (0,) not in made.right[row]}
                    expected = tuple(int(setting in ones) for setting in settings(len(wires)))
                    self.assert_same(paper.table, expected)
                    self.assertTrue(made.serves(paper.table, wires))
                else:
                    self.assertIn(paper.parts, made.apart())
                    self.assertEqual(made.setting(paper.one, wires), made.setting(paper.other, wires))
                self.assertEqual(enough(wires=tuple(wires), task=task), paper)
        self.assertGreater(min(found.values()), 100)

    def test_tight_sights_and_needed(self):
        chooser = random.Random(133)
        found = {0: 0, 1: 0, 2: 0}
        for task in TASKS:
            made = DrawnSights(task)
            for _ in range(3):
                wires = some_wires(chooser, made, 6)
                expected = made.tight(wires)
                self.assert_same(tight_sights(task, wires), expected)
                self.assert_same(tight_sights(wires=tuple(wires), task=task), expected)
                in_all = tuple(
                    name for name in made.sure if expected and all(name in lot for lot in expected)
                )
                self.assert_same(needed(task, wires), in_all)
                self.assert_same(needed(wires=tuple(wires), task=task), in_all)
                found[min(2, len(expected))] += 1
        self.assertGreater(min(found.values()), 15)

    def test_lots_stand_as_the_net_orders_them(self):
        net = Net.read("b a d c : x 0110 a b / w 0110 c d / h ? / y 01 x / out 1001 h y")
        task = Task(net, "out")
        wires = ["y", "d", "w", "a", "x", "b", "c"]
        self.assert_same(tight_sights(task, wires), (("x",), ("y",), ("b", "a")))
        self.assert_same(tight_sights(task, wires[::-1]), (("x",), ("y",), ("b", "a")))
        self.assert_same(needed(task, ["a", "c", "b"]), ("b", "a"))


class Edges(Told):
    def test_no_wires_at_all(self):
        for text, paper in (("11 h", Enough([0])), ("01 h", Enough([1])), ("10 h", Enough([0])), ("00 h", Short(0, 0))):
            task = Task(Net.read(f"a : h ? a / out {text}"), "out")
            self.assertEqual(enough(task, []), paper)
            self.assertEqual(enough(task, ()), paper)
            self.assert_same(tight_sights(task, []), ((),) if paper else ())
            self.assert_same(needed(task, []), ())
        task = Task(Net.read("a : h ? a / out 1001 a h"), "out")
        self.assertEqual(enough(task, []), Short(1, 0))
        self.assert_same((tight_sights(task, ()), needed(task, ())), ((), ()))

    def test_what_the_hole_sees_does_not_matter(self):
        for sight in ("", " a", " a b c", " w", " c w"):
            task = Task(Net.read(f"a b c : w 0001 a b / h ?{sight} / out 1001 h w"), "out")
            self.assert_same(apart(task), apart(TASK))
            self.assertEqual(enough(task, ["b", "a"]), Enough([0, 0, 0, 1]))
            self.assert_same(tight_sights(task, ["w", "a", "b", "c"]), (("w",), ("a", "b")))

    def test_wires_drawn_behind_the_hole(self):
        net = Net.read("a b : h ? / n 10 a / w 0001 a b / x 0110 h w / out 10 x / m 01 b")
        task = Task(net, "out")
        self.assertEqual(enough(task, ["w"]), Enough([0, 1]))
        self.assertEqual(enough(task, ["n", "m"]), Enough([0, 1, 0, 0]))
        self.assert_same(tight_sights(task, ["m", "w", "n", "b", "a"]),
                         (("w",), ("a", "b"), ("a", "m"), ("b", "n"), ("n", "m")))
        for name in ("h", "x", "out"):
            for call in CALLS:
                self.assert_raises(Misfit("hole"), call, task, ["a", name])

    def test_a_lost_row(self):
        task = Task(Net.read("a b : h ? a / x 0110 a h / out 0001 x b"), "out")
        self.assert_same(apart(task), tuple(itertools.product((0, 1, 2), (0, 2, 3))))
        self.assertFalse(enough(task, ["a", "b"]))
        self.assert_same((tight_sights(task, ["a", "b"]), needed(task, ["a", "b"])), ((), ()))

    def test_settings_that_no_row_has(self):
        net = Net.read("a b : n 10 a / h ? / out 10 h")
        self.assertEqual(enough(Task(net, "h"), ["a", "n"]), Enough([0, 1, 1, 0]))
        self.assertEqual(enough(Task(net, "out"), ["a", "n"]), Enough([0, 0, 0, 0]))

    def test_just_eight_wires_and_nine(self):
        gates = " / ".join(f"g{at} 0110 {NAMES_OF_INPUTS[at]} {NAMES_OF_INPUTS[at + 1]}" for at in range(5))
        task = Task(Net.read(f"a b c d e f : {gates} / h ? a / out 1001 h g4"), "out")
        wires = ["g4", "g3", "g2", "f", "e", "d", "c", "b"]
        self.assertEqual(len(enough(task, wires).table), 256)
        self.assert_same(tight_sights(task, wires), (
            ("g4",), ("e", "f"), ("d", "f", "g3"), ("c", "f", "g2", "g3"),
        ))
        self.assert_same(needed(task, wires), ())
        for call in CALLS:
            self.assert_raises(TooMany("wires", 8), call, task, [*wires, "a"])


class WrongArguments(Told):
    def test_what_is_no_task(self):
        for value in wrong_values() + [NET, str(NET), between(TASK)]:
            self.assert_raises(BadTask("task"), apart, value)
            for call in CALLS:
                for wires in (["a"], ["z"], None):
                    self.assert_raises(BadTask("task"), call, value, wires)

    def test_what_is_no_list_of_wires(self):
        for call in CALLS:
            for value in (True, None, 0, "a", "a b", b"a", {"a": 1}, {"a"}, object(), EqualsAll(), NET, HUGE):
                self.assert_raises(NoWire(value), call, TASK, value)
            for value in no_names() + ["z", "aa", "h1", HUGE, -1, (), []]:
                with self.subTest(call=call, value=value):
                    self.assert_raises(NoWire(value), call, TASK, [value])
                    self.assert_raises(NoWire(value), call, TASK, ("a", "b", value, "y"))

    def test_wires_that_stand_twice(self):
        for call in CALLS:
            self.assert_raises(Twice("a"), call, TASK, ["a", "a"])
            self.assert_raises(Twice("b"), call, TASK, ("a", "b", "w", "b", "a"))

    def test_tasks_without_one_hole(self):
        for task in (NO_HOLE, TWO_HOLES):
            self.assert_raises(Misfit("holes"), apart, task)
            for call in CALLS:
                self.assert_raises(Misfit("holes"), call, task, ["a"])
                self.assert_raises(Misfit("holes"), call, task, [])

    def test_order_of_errors(self):
        nine = ["a", "b", "c", "d", "e", "f", "x", "y", "z"]
        sure = Task(Net.read("a b c d e f : h ? / x 01 a / y 01 a / z 01 a / out 01 h"), "out")
        for call in CALLS:
            self.assert_raises(NoWire("q"), call, TWO_HOLES, ["a", "a", "q"])
            self.assert_raises(NoWire("q"), call, TASK, ["h", "h", "q"])
            self.assert_raises(Twice("h"), call, TASK, ["h", "h"])
            self.assert_raises(Twice("a"), call, TWO_HOLES, ["a", "h", "a"])
            self.assert_raises(Twice("a"), call, sure, [*nine, "a"])
            self.assert_raises(Misfit("holes"), call, TWO_HOLES, ["h"])
            self.assert_raises(Misfit("holes"), call, NO_HOLE, nine)
            self.assert_raises(Misfit("hole"), call, sure, [*nine, "out"])
            self.assert_raises(TooMany("wires", 8), call, sure, nine)


class Facts(Told):
    def test_enough_exactly_if_each_two_rows_apart_are_parted(self):
        chooser = random.Random(134)
        for task in TASKS:
            made = DrawnSights(task)
            wires = some_wires(chooser, made, 4)
            parted = all(
                any(made.signs[name][one] != made.signs[name][other] for name in wires) for one, other in apart(task)
            )
            self.assertIs(bool(enough(task, wires)), parted)

    def test_with_more_wires_what_is_enough_stays_so(self):
        chooser = random.Random(135)
        for task in TASKS:
            made = DrawnSights(task)
            wires = some_wires(chooser, made, 6)
            lots = tight_sights(task, wires)
            for many in range(len(wires) + 1):
                for lot in itertools.combinations(wires, many):
                    within = any(set(tight) <= set(lot) for tight in lots)
                    self.assertIs(bool(enough(task, lot)), within)

    def test_needed_by_what_parts_two_rows_alone(self):
        chooser = random.Random(136)
        for task in TASKS:
            made = DrawnSights(task)
            wires = some_wires(chooser, made, 6)
            alone = {
                parting[0] for parting in (
                    [name for name in wires if made.signs[name][one] != made.signs[name][other]]
                    for one, other in apart(task)
                ) if len(parting) == 1
            }
            expected = [name for name in made.sure if name in alone] if tight_sights(task, wires) else []
            self.assert_same(needed(task, wires), tuple(expected))

    def test_as_with_the_hole_that_sees_them(self):
        # Wires ahead of the hole are enough exactly if it can be filled with these as its sources.
        chooser = random.Random(137)
        for task in TASKS:
            name = task.holes[0]
            ahead = task.net.wires[:task.net.wires.index(name)]
            wires = chooser.sample(ahead, chooser.randint(0, min(3, len(ahead))))
            other = Task(task.net.struck(name, wires), task.wish)
            paper = between(other)
            self.assertIs(bool(enough(task, wires)), bool(paper))
            if paper:
                self.assertEqual(enough(task, wires), Enough(paper.least))
                self.assertTrue(other.is_right([enough(task, wires).table]))

    def test_a_wire_that_the_hole_shall_be(self):
        chooser = random.Random(138)
        for task in TASKS:
            sure = [name for name in task.net.wires if task.net.is_sure(name)]
            if len(task.net.gates) > 22:
                continue
            target = chooser.choice(sure)
            gates = [*task.net.gates, ("same", (task.holes[0], target), (1, 0, 0, 1))]
            like = Task(Net(task.net.inputs, gates), "same")
            made = DrawnSights(like)
            wires = chooser.sample(sure, chooser.randint(0, min(4, len(sure))))
            told = {}
            for row in made.rows:
                told.setdefault(made.setting(row, wires), set()).add(made.signs[target][row])
            self.assertIs(bool(enough(like, wires)), all(len(signs) == 1 for signs in told.values()))
            if target in wires:
                self.assertTrue(enough(like, wires))

    def test_wires_in_any_order(self):
        chooser = random.Random(139)
        for task in TASKS:
            made = DrawnSights(task)
            wires = some_wires(chooser, made, 5)
            turned = chooser.sample(wires, len(wires))
            self.assert_same(tight_sights(task, turned), tight_sights(task, wires))
            self.assert_same(needed(task, turned), needed(task, wires))
            one, other = enough(task, wires), enough(task, turned)
            self.assertIs(type(one), type(other))
            if one:
                first = dict(zip(settings(len(wires)), one.table))
                for setting, sign in zip(settings(len(wires)), other.table):
                    same = tuple(setting[turned.index(name)] for name in wires)
                    self.assertEqual(first[same], sign)


class NothingIsChanged(Told):
    def test_tasks_and_wires_stay(self):
        for task in TASKS[:60]:
            wires = list(task.net.inputs)
            before = (str(task.net), task.wish, task.sights, list(wires))
            again = Task(Net.read(str(task.net)), task.wish)
            for call in CALLS:
                self.assertEqual(call(again, wires), call(task, wires))
            self.assert_same(apart(again), apart(task))
            self.assert_same((str(task.net), task.wish, task.sights, wires), before)


class ShortTimes(Told):
    def test_the_greatest_tasks(self):
        begin = time.process_time()
        net = greatest_net()
        for hole in net.holes[1:]:
            net = net.put(hole, [0, 1, 1, 0] * 16)
        wires = [name for name in net.wires if net.is_sure(name)][-8:]
        for wish in net.wires[-3:]:
            task = Task(net, wish)
            apart(task)
            for call in CALLS:
                call(task, wires)
        for often in (0.5, 0.8):
            chooser = random.Random(140)
            signs = "".join(str(int(chooser.random() < often)) for _ in range(64))
            gates = " / ".join(
                f"g{at} {''.join(str(chooser.randrange(2)) for _ in range(64))} a b c d e f" for at in range(8)
            )
            task = Task(Net.read(f"a b c d e f : {gates} / w {signs} a b c d e f / h ? a / out 1001 h w"), "out")
            for wires in ([f"g{at}" for at in range(8)], [*"abcdef", "g0", "g1"]):
                lots = tight_sights(task, wires)
                self.assertEqual(needed(task, wires), tuple(
                    name for name in task.net.wires if lots and all(name in lot for lot in lots)
                ))
                self.assertIs(bool(enough(task, wires)), bool(lots))
        self.assertLess(time.process_time() - begin, 5)
