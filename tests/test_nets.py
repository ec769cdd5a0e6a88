"""Nets: what makes one, what can be asked of them, gates put and struck."""

import itertools
import random
import time

from holegates import nets as module
from holegates.errors import BadNet, BadTable, Misfit, NoWire, TooMany, Twice
from holegates.nets import Net
from tests.support import (
    NAMES_OF_INPUTS, EqualsAll, Told, drawn_behind, drawn_sure, greatest_net, no_names, some_nets, some_tables,
    wrong_tables,
    wrong_values,
)

HALF = Net(["a", "b"], [("h", ["a", "b"], None), ("n", ["a"], (1, 0)), ("out", ["h", "n"], [0, 1, 1, 0])])
NETS = some_nets(150, seed=1)


def plain_gates(many):
    return [(f"g{at}", (), (0,)) for at in range(many)]


def no_lists():
    return [True, None, 0, 1, "", "a", "ab", b"a", {"a": 1}, {"a"}, range(1), iter("a"), object(), list]


class WhatMakesANet(Told):
    def test_the_class_and_its_methods_are_defined_in_this_file(self):
        self.assertEqual(Net.__module__, "holegates.nets")
        self.assertIs(module.Net, Net)
        for name in ("__init__", "__eq__", "__str__", "read", "sources", "behind", "is_sure", "put", "struck"):
            self.assertIn(name, vars(Net))

    def test_attributes(self):
        self.assert_same(HALF.inputs, ("a", "b"))
        self.assert_same(
            HALF.gates, (("h", ("a", "b"), None), ("n", ("a",), (1, 0)), ("out", ("h", "n"), (0, 1, 1, 0)))
        )
        self.assert_same(HALF.wires, ("a", "b", "h", "n", "out"))
        self.assert_same(HALF.holes, ("h",))

    def test_by_name_and_with_tuples(self):
        gates = ((("h", ("a", "b"), None)), ["n", ("a",), [1, 0]], ("out", ["h", "n"], (0, 1, 1, 0)))
        self.assertEqual(Net(gates=gates, inputs=("a", "b")), HALF)
        self.assertEqual(Net(("a", "b"), list(gates)), HALF)

    def test_no_gates(self):
        for many in range(1, 7):
            net = Net(NAMES_OF_INPUTS[:many], [])
            self.assert_same((net.inputs, net.gates), (NAMES_OF_INPUTS[:many], ()))
            self.assert_same((net.wires, net.holes), (NAMES_OF_INPUTS[:many], ()))

    def test_gates_without_sources_and_with_six(self):
        table = some_tables(6, 1, 3)[0]
        gates = [("k", [], [1]), ("x", NAMES_OF_INPUTS, table), ("h", [], None), ("i", "f k x a b c".split(), None)]
        net = Net(NAMES_OF_INPUTS, gates)
        self.assert_same(net.gates[0], ("k", (), (1,)))
        self.assert_same(net.gates[1], ("x", NAMES_OF_INPUTS, table))
        self.assert_same(net.gates[2:], (("h", (), None), ("i", ("f", "k", "x", "a", "b", "c"), None)))
        self.assert_same(net.holes, ("h", "i"))

    def test_none_to_four_holes(self):
        for many in range(5):
            net = Net(["a"], [(f"h{at}", ["a"], None) for at in range(many)])
            self.assertEqual(net.holes, tuple(f"h{at}" for at in range(many)))

    def test_24_gates(self):
        self.assertEqual(len(Net(["a"], plain_gates(24)).gates), 24)
        net = greatest_net()
        self.assertEqual((len(net.inputs), len(net.gates), len(net.holes), len(net.wires)), (6, 24, 4, 30))

    def test_names_of_all_kinds(self):
        net = Net(["z", "abcdefghijkl"], [("a7", ["z"], None), ("a00", ["abcdefghijkl", "z"], (0, 0, 0, 1))])
        self.assertEqual(net.wires, ("z", "abcdefghijkl", "a7", "a00"))

    def test_what_is_changed_afterwards_changes_no_net(self):
        inputs, sources, table = ["a", "b"], ["a", "b"], [0, 1, 1, 0]
        gate = ["x", sources, table]
        gates = [["h", ["a"], None], gate]
        net = Net(inputs, gates)
        text = str(net)
        inputs.append("c")
        sources.reverse()
        table[0] = 1
        gate[0] = "y"
        gates.clear()
        self.assertEqual(str(net), text)
        self.assert_same(net.wires, ("a", "b", "h", "x"))
        self.assertIs(net.is_sure("x"), True)
        self.assert_same(net.sources("x"), ("a", "b"))
        self.assertEqual(net, Net.read("a b : h ? a / x 0110 a b"))

    def test_what_is_passed_is_not_changed(self):
        inputs, gates = ["a"], [["h", ["a"], None], ["x", ["a", "h"], [0, 1, 1, 0]]]
        net = Net(inputs, gates)
        sources, table = ["a"], [0, 1, 0, 1]
        net.struck("x", sources)
        net.put("x", table)
        self.assertRaises(TooMany, Net, inputs, gates + plain_gates(23))
        self.assert_same((inputs, gates), (["a"], [["h", ["a"], None], ["x", ["a", "h"], [0, 1, 1, 0]]]))
        self.assert_same((sources, table), (["a"], [0, 1, 0, 1]))


class WrongParts(Told):
    def test_inputs(self):
        for value in no_lists() + [[], ()]:
            with self.subTest(value=value):
                self.assert_raises(BadNet("inputs"), Net, value, [])
                self.assert_raises(BadNet("inputs"), Net, value, None)
        for value in no_names():
            with self.subTest(value=value):
                for inputs in ([value], ["a", value], (value, "a", "a")):
                    self.assert_raises(BadNet("inputs"), Net, inputs, [])

    def test_gates(self):
        for value in no_lists():
            with self.subTest(value=value):
                self.assert_raises(BadNet("gates"), Net, ["a"], value)
        for value in no_lists() + [[], (), ("x",), ("x", []), ["x", [], (1,), 0], ("x", "a", None), [["x", [], None]]]:
            with self.subTest(value=value):
                for gates in ([value], [("g", [], (1,)), value], [value, ("g", [], (1,))]):
                    self.assert_raises(BadNet("gates"), Net, ["a"], gates)

    def test_names_of_gates(self):
        for value in no_names():
            with self.subTest(value=value):
                self.assert_raises(BadNet("gates"), Net, ["a"], [(value, [], (1,))])
                self.assert_raises(BadNet("gates"), Net, ["a"], [("g", [], (1,)), [value, ["a"], None]])

    def test_sources(self):
        for value in no_lists() + [["a"] * 7, list("abcdefg"), ("a",) * 19000]:
            with self.subTest(value=value):
                for table in (None, (0, 1)):
                    self.assert_raises(BadNet("gates"), Net, ["a"], [("g", value, table)])
        for value in no_names():
            with self.subTest(value=value):
                for sources in ([value], ["a", value], (value, "a")):
                    self.assert_raises(BadNet("gates"), Net, ["a"], [("g", sources, None)])

    def test_tables(self):
        for value in wrong_tables():
            if value is not None:
                with self.subTest(value=value):
                    self.assert_raises(BadNet("gates"), Net, ["a"], [("g", ["a"], value)])
                    self.assert_raises(BadNet("gates"), Net, ["a"], [("g", [], value), ("h", [], None)])

    def test_wires_of_one_name(self):
        for inputs, gates, name in (
            (["a", "a"], [], "a"), (["a", "b", "c", "b", "a"], [], "b"), (["a"], [("a", [], (1,))], "a"),
            (["a", "b"], [("x", [], (1,)), ("b", [], (1,)), ("a", [], None)], "b"),
            (["a"], [("x", [], (1,)), ("y", [], (1,)), ("y", [], None), ("x", [], None)], "y"),
        ):
            self.assert_raises(Twice(name), Net, inputs, gates)

    def test_sources_that_are_not_ahead(self):
        for gates, name in (
            ([("g", ["z"], (0, 1))], "z"), ([("g", ["g"], (0, 1))], "g"), ([("g", ["a", "x", "y"], None)], "x"),
            ([("g", ["k"], (0, 1)), ("k", ["z"], (0, 1))], "k"),
            ([("g", ["a"], None), ("k", ["a", "h"], None), ("h", [], (0,))], "h"),
        ):
            self.assert_raises(NoWire(name), Net, ["a", "b"], gates)

    def test_a_source_twice(self):
        for sources, name in ((["a", "a"], "a"), (["a", "b", "b", "a"], "b"), (("b", "a", "b", "a"), "b")):
            for table in (None, [0, 1], (0,) * 16):
                self.assert_raises(Twice(name), Net, ["a", "b"], [("k", ["a"], (0, 1)), ("g", sources, table)])

    def test_tables_of_other_places(self):
        for places, sources in itertools.product(range(9), range(7)):
            gates = [("k", [], (1,)), ("g", NAMES_OF_INPUTS[:sources], [0] * 2 ** places)]
            if places == sources:
                self.assertEqual(len(Net(NAMES_OF_INPUTS, gates).gates), 2)
            else:
                self.assert_raises(Misfit("places"), Net, NAMES_OF_INPUTS, gates)

    def test_holes_that_see_what_is_not_sure(self):
        hole, behind = ("h", ["a"], None), ("x", ["a", "h"], (0, 1, 1, 0))
        for gates in (
            [hole, ("k", ["h"], None)], [hole, behind, ("k", ["x"], None)], [hole, behind, ("k", ["a", "x"], None)],
            [hole, behind, ("y", ["x"], (0, 0)), ("k", ["y"], None)], [("h", [], None), ("k", ["h"], None)],
            # The drawing counts, not that the tables let nothing of h through.
            [hole, ("x", ["a", "h"], (1, 1, 1, 1)), ("k", ["x"], None)],
        ):
            self.assert_raises(Misfit("sure"), Net, ["a"], gates)
        self.assertEqual(Net(["a"], [hole, behind, ("k", ["a"], None)]).holes, ("h", "k"))

    def test_too_many(self):
        names = [f"i{at}" for at in range(2000)]
        for many in (7, 8, 30, 2000):
            self.assert_raises(TooMany("inputs", 6), Net, names[:many], [])
        for many in (25, 26, 100, 2000):
            self.assert_raises(TooMany("gates", 24), Net, ["a"], plain_gates(many))
        for many in (5, 6, 24):
            self.assert_raises(TooMany("holes", 4), Net, ["a"], [(f"h{at}", ["a"], None) for at in range(many)])

    def test_the_order_of_the_errors(self):
        """A net in which all is wrong, mended fault by fault."""
        holes = [(f"h{at}", ["a"], None) for at in range(4)]
        many = plain_gates(20)
        unsure, misfit = ("s", ["h0"], None), ("m", ["a"], (1,))
        doubled, lacking = ("t", ["a", "a"], None), ("l", ["z"], None)
        again, wrong = ("h1", [], (1,)), ("x", [], 7)
        names = list("abcdefg")
        faults = [unsure, misfit, doubled, lacking, again, wrong]
        self.assert_raises(BadNet("inputs"), Net, [*names, "a", 1], [*faults, *holes, *many])
        for error in (BadNet("gates"), Twice("a")):
            self.assert_raises(error, Net, [*names, "a"], [*holes, *faults, *many])
            faults = [fault for fault in faults if fault != wrong]
        for error, mended in (
            (Twice("h1"), again), (NoWire("z"), lacking), (Twice("a"), doubled), (Misfit("places"), misfit),
            (Misfit("sure"), unsure),
        ):
            # What counts is what is wrong, not where it stands.
            self.assert_raises(error, Net, names, [*holes, *faults, *many])
            self.assert_raises(error, Net, names, [*holes, *faults[::-1], *many])
            faults = [fault for fault in faults if fault != mended]
        holes = [*holes, ("h5", [], None)]
        self.assert_raises(TooMany("inputs", 6), Net, names, [*holes, *many])
        self.assert_raises(TooMany("gates", 24), Net, names[:6], [*holes, *many])
        self.assert_raises(TooMany("holes", 4), Net, names[:6], [*holes, *many[:19]])
        self.assertEqual(len(Net(names[:6], [*holes[:4], *many]).gates), 24)

    def test_the_whole_net_is_gone_through_for_each_error(self):
        doubled, lacking, misfit = ("d", ["a", "a"], (1,)), ("l", ["z"], (0, 1)), ("m", [], (0, 1))
        self.assert_raises(NoWire("z"), Net, ["a"], [doubled, lacking])
        self.assert_raises(Twice("a"), Net, ["a"], [misfit, doubled])
        self.assert_raises(Twice("a"), Net, ["a"], [lacking, doubled, ("a", [], (1,))])
        self.assert_raises(Misfit("places"), Net, ["a"], [("h", [], None), ("k", ["h"], None), misfit])


class Equality(Told):
    def assert_unlike(self, one, other):
        self.assertIs(one == other, False)
        self.assertIs(other == one, False)
        self.assertIs(one != other, True)

    def test_equal_nets(self):
        for net in NETS:
            other = Net(list(net.inputs), [list(gate) for gate in net.gates])
            self.assertIs(net == other, True)
            self.assertIs(net != other, False)
            self.assertIs(net == net, True)

    def test_unlike_nets(self):
        text = "a b : h ? a b / n 10 a / x 0110 h n / y 01 a"
        net = Net.read(text)
        for old, new in (
            ("10", "11"), ("0110", "0111"), ("h n", "n h"), ("? a b", "? b a"), ("? a b", "? a"), ("n 10 a", "n 10 b"),
            ("y", "z"), ("a b : h", "b a : h"), ("?", "0001"), ("0110 h n", "?"), ("a b :", "a b c :"),
            (" / y 01 a", ""),
            (" / y 01 a", " / y 01 a / w 1"), ("n 10 a / x 0110 h n / y 01 a", "n 10 a / y 01 a / x 0110 h n"),
            ("0110 h n", "? a b"), ("01 a", "0101 b a"),
        ):
            self.assert_unlike(net, Net.read(text.replace(old, new)))

    def test_nets_are_equal_just_if_their_texts_are(self):
        for one, other in itertools.product(NETS[:60], repeat=2):
            self.assertIs(one == other, str(one) == str(other))

    def test_values_of_other_classes(self):
        class Below(Net):
            pass

        parts = (HALF.inputs, HALF.gates)
        for value in wrong_values() + [str(HALF), HALF.gates, parts, Below(*parts)]:
            with self.subTest(value=value):
                self.assert_unlike(HALF, value)
        self.assertIs(HALF == EqualsAll(), False)


class Drawing(Told):
    def test_sources_behind_and_sure(self):
        for net in NETS:
            sources = {name: ahead for name, ahead, _ in net.gates}
            sure = drawn_sure(net)
            for name in net.wires:
                self.assert_same(net.sources(name), sources.get(name, ()))
                behind = drawn_behind(net, name)
                self.assert_same(net.behind(name), tuple(wire for wire in net.wires if wire in behind))
                self.assertIs(net.is_sure(name), name in sure)

    def test_sources_of_holes_are_sure(self):
        for net in NETS:
            for hole in net.holes:
                self.assertTrue(all(net.is_sure(name) for name in net.sources(hole)))

    def test_by_name(self):
        self.assert_same(HALF.sources(name="out"), ("h", "n"))
        self.assert_same(HALF.behind(name="a"), ("h", "n", "out"))
        self.assertIs(HALF.is_sure(name="n"), True)

    def test_wires_that_nothing_is_behind(self):
        self.assert_same(HALF.behind("out"), ())
        self.assert_same(Net(["a"], []).behind("a"), ())
        self.assert_same(Net.read("a : h ? / k ? / x 1").behind("h"), ())

    def test_what_is_no_wire(self):
        for value in no_names() + ["z", "outer", "ou", "h n", "aa"]:
            with self.subTest(value=value):
                for call in (HALF.sources, HALF.behind, HALF.is_sure):
                    self.assert_raises(NoWire(value), call, value)


class Putting(Told):
    def test_any_gate(self):
        for net in NETS:
            for at, (name, sources, old) in enumerate(net.gates):
                for table in ((0,) * 2 ** len(sources), [1] * 2 ** len(sources), *some_tables(len(sources), 2, at)):
                    found = net.put(name, table)
                    gates = list(net.gates)
                    gates[at] = (name, sources, tuple(table))
                    self.assert_same((found.inputs, found.gates), (net.inputs, tuple(gates)))
                    self.assertEqual(found.holes, tuple(hole for hole in net.holes if hole != name))
                    self.assertEqual(found.put(name=name, table=table), found)
                    if old is not None:
                        self.assertEqual(found.put(name, old), net)

    def test_no_sure_wire_ceases_to_be_so(self):
        for net in NETS:
            for hole in net.holes:
                found = net.put(hole, [0] * 2 ** len(net.sources(hole)))
                self.assertTrue(all(found.is_sure(name) for name in net.wires if net.is_sure(name)))
                self.assertIs(found.is_sure(hole), True)

    def test_what_is_no_gate(self):
        for value in no_names() + ["z", "a", "b", "hh"]:
            with self.subTest(value=value):
                self.assert_raises(NoWire(value), HALF.put, value, (0, 1))
                self.assert_raises(NoWire(value), HALF.put, value, None)

    def test_what_is_no_table(self):
        for value in wrong_tables():
            with self.subTest(value=value):
                self.assert_raises(BadTable("table"), HALF.put, "n", value)
                self.assert_raises(BadTable("table"), HALF.put, "h", value)

    def test_tables_of_other_places(self):
        for name, right in (("h", 2), ("n", 1), ("out", 2)):
            for places in set(range(9)) - {right}:
                self.assert_raises(Misfit("places"), HALF.put, name, [0] * 2 ** places)

    def test_the_old_net_stays_and_the_list_is_copied(self):
        text, table = str(HALF), [0, 0, 0, 1]
        found = HALF.put("h", table)
        table[0] = 1
        self.assertEqual((str(HALF), HALF.holes), (text, ("h",)))
        self.assertEqual(found.gates[0], ("h", ("a", "b"), (0, 0, 0, 1)))


class Striking(Told):
    def test_with_its_own_sources(self):
        for net in NETS:
            for at, (name, sources, table) in enumerate(net.gates):
                unsure = [source for source in sources if not net.is_sure(source)]
                blinded = [hole for hole in net.behind(name) if hole in net.holes]
                if unsure or blinded:
                    self.assert_raises(Misfit("sure"), net.struck, name)
                    continue
                found = net.struck(name)
                gates = list(net.gates)
                gates[at] = (name, sources, None)
                self.assert_same((found.inputs, found.gates), (net.inputs, tuple(gates)))
                self.assertEqual(net.struck(name, None), found)
                self.assertEqual(net.struck(name, list(sources)), found)
                self.assertEqual(found if table is None else found.put(name, table), net)

    def test_those_behind_cease_to_be_sure_and_no_others(self):
        for net in NETS:
            for name, sources, _ in net.gates:
                if net.is_sure(name) and not set(net.behind(name)) & set(net.holes):
                    found = net.struck(name)
                    gone = {wire for wire in net.wires if net.is_sure(wire) and not found.is_sure(wire)}
                    self.assertEqual(gone, {name} | {wire for wire in net.behind(name) if net.is_sure(wire)})

    def test_with_other_sources(self):
        chooser = random.Random(4)
        for net in NETS:
            for at, (name, _, _) in enumerate(net.gates):
                ahead = net.wires[:len(net.inputs) + at]
                sources = chooser.sample(ahead, chooser.randrange(min(len(ahead), 6) + 1))
                gates = list(net.gates)
                gates[at] = (name, tuple(sources), None)
                if all(net.is_sure(source) for source in sources) and not set(net.behind(name)) & set(net.holes):
                    found = net.struck(name=name, sources=sources)
                    self.assert_same(found.gates, tuple(gates))
                    self.assertEqual(net.struck(name, tuple(sources)), found)
                else:
                    self.assert_raises(Misfit("sure"), net.struck, name, sources)

    def test_no_sources_and_six(self):
        net = Net(NAMES_OF_INPUTS, [("x", ["a"], (0, 1))])
        self.assertEqual(str(net.struck("x", [])), "a b c d e f : x ?")
        self.assertEqual(str(net.struck("x", list("fedcba"))), "a b c d e f : x ? f e d c b a")

    def test_a_hole_gets_other_sources(self):
        self.assertEqual(str(HALF.struck("h", ["b"])), "a b : h ? b / n 10 a / out 0110 h n")
        self.assertEqual(HALF.struck("h"), HALF)

    def test_what_is_no_gate(self):
        for value in no_names() + ["z", "a", "b", "ab"]:
            with self.subTest(value=value):
                self.assert_raises(NoWire(value), HALF.struck, value)
                self.assert_raises(NoWire(value), HALF.struck, value, 7)

    def test_what_is_no_list_of_names(self):
        for value in no_lists():
            if value is not None:
                with self.subTest(value=value):
                    self.assert_raises(BadNet("sources"), HALF.struck, "n", value)
        for value in no_names():
            with self.subTest(value=value):
                for sources in ([value], ["a", value], ["zz", "zz", value], (value, "a")):
                    self.assert_raises(BadNet("sources"), HALF.struck, "n", sources)
        for sources in (["a"] * 7, list("abcdefg"), ["zz"] * 19000):
            self.assert_raises(BadNet("sources"), HALF.struck, "n", sources)

    def test_sources_that_are_not_ahead(self):
        for name, sources, wrong in (
            ("n", ["z"], "z"), ("n", ["n"], "n"), ("n", ["out", "n"], "out"), ("h", ["a", "n"], "n"),
            ("n", ["a", "a", "z"], "z"),
            ("out", ["h", "h", "out"], "out"),
        ):
            self.assert_raises(NoWire(wrong), HALF.struck, name, sources)

    def test_a_source_twice(self):
        self.assert_raises(Twice("a"), HALF.struck, "n", ["a", "a"])
        self.assert_raises(Twice("b"), HALF.struck, "n", ("a", "b", "b", "a"))
        self.assert_raises(Twice("h"), HALF.struck, "out", ["h", "h"])

    def test_what_is_not_sure(self):
        self.assert_raises(Misfit("sure"), HALF.struck, "out")
        self.assert_raises(Misfit("sure"), HALF.struck, "n", ["h"])
        net = Net.read("a : x 10 a / y 01 x / h ? y")
        for name in ("x", "y"):
            self.assert_raises(Misfit("sure"), net.struck, name)
            self.assert_raises(Misfit("sure"), net.struck, name, [])
        self.assertEqual(net.struck("h", ["x"]).holes, ("h",))

    def test_a_fifth_hole(self):
        net = Net.read("a : h ? / k ? a / m ? / n ? a / x 01 a / y 01 h")
        self.assert_raises(TooMany("holes", 4), net.struck, "x")
        self.assert_raises(TooMany("holes", 4), net.struck, "x", [])
        self.assert_raises(TooMany("holes", 4), net.struck, "y", ["x"])
        # One hole more and one that is not sure: what does not fit comes first.
        self.assert_raises(Misfit("sure"), net.struck, "y")
        self.assertEqual(net.struck("n", []).holes, ("h", "k", "m", "n"))

    def test_the_old_net_stays_and_the_list_is_copied(self):
        text, sources = str(HALF), ["b"]
        found = HALF.struck("n", sources)
        sources.append("a")
        for wrong in (["a", "a"], ["h"], ["z"], [1]):
            self.assertRaises(ValueError, HALF.struck, "n", wrong)
        self.assertEqual((str(HALF), HALF.holes), (text, ("h",)))
        self.assertEqual(found.sources("n"), ("b",))


class ShortTimes(Told):
    def test_the_greatest_net(self):
        begin = time.process_time()
        net = greatest_net()
        for name in net.wires:
            net.sources(name), net.behind(name), net.is_sure(name)
        for name, sources, _ in net.gates:
            net.put(name, [1] * 64)
        self.assertEqual(Net(net.inputs, net.gates), net)
        self.assertLess(time.process_time() - begin, 2)

    def test_many_parts(self):
        begin = time.process_time()
        names = [f"n{at}" for at in range(9000)]
        self.assert_raises(TooMany("inputs", 6), Net, names, [])
        self.assert_raises(TooMany("gates", 24), Net, ["a"], [(name, [], None) for name in names[:4000]])
        self.assert_raises(Twice("n8999"), Net, names + names[::-1], [])
        self.assertLess(time.process_time() - begin, 2)
