"""Texts of nets: written, read, and wrong at each of their items."""

import itertools
import time

from holegates.checks import is_name
from holegates.errors import BadText, HoleError
from holegates.nets import Net
from tests.support import NAMES_OF_INPUTS, Told, greatest_net, some_nets

NETS = some_nets(120, seed=2, most_holes=4)
INPUTS = "a b c d e f"


def written(net):
    """The text of a net, put together item by item."""
    items = [*net.inputs, ":"]
    for name, sources, table in net.gates:
        if items[-1] != ":" or name != net.gates[0][0]:
            items.append("/")
        items += [name, "?" if table is None else "".join("01"[sign] for sign in table), *sources]
    return " ".join(items)


def is_text(items):
    """Whether some net has these items as its text: the gates are cut out, and Net is asked."""
    if ":" not in items:
        return False
    at = items.index(":")
    inputs, gates = items[:at], []
    behind = " ".join(items[at + 1:]).split(" / ") if items[at + 1:] else []
    for gate in behind:
        name, *sources = gate.split(" ")
        table = sources.pop(0) if sources else ""
        gates.append((name, sources, None if table == "?" else [ord(sign) - 48 for sign in table]))
    try:
        return str(Net(inputs, gates)) == " ".join(items)
    except HoleError:
        return False


def can_go_on(items, names):
    """Whether some text begins with these items; two more are enough where no table has more than four signs."""
    goes_on = [*names, "?", ":", "new"]
    return any(
        is_text([*items, *more]) for many in range(3) for more in itertools.product(goes_on, repeat=many)
    )


def first_wrong_item(items, names):
    """The index that BadText is told to have, None for the text of a net."""
    if is_text(items):
        return None
    for many in range(1, len(items) + 1):
        if not can_go_on(items[:many], names):
            return many - 1
    return len(items)


class ReadingAndWriting(Told):
    def assert_reads(self, text):
        net = Net.read(text)
        self.assertIs(type(net), Net)
        self.assertEqual(str(net), text)
        return net

    def test_there_and_back(self):
        for net in NETS:
            self.assertEqual(str(net), written(net))
            found = self.assert_reads(str(net))
            self.assertEqual(found, net)
            self.assert_same((found.inputs, found.gates), (net.inputs, net.gates))
            self.assert_same((found.wires, found.holes), (net.wires, net.holes))

    def test_edges(self):
        self.assert_same(self.assert_reads("a :").gates, ())
        self.assert_same(self.assert_reads(INPUTS + " :").inputs, NAMES_OF_INPUTS)
        self.assert_same(self.assert_reads("a : h ?").gates, (("h", (), None),))
        gates = self.assert_reads("a : k 1 / h ? / m 0").gates
        self.assert_same(gates, (("k", (), (1,)), ("h", (), None), ("m", (), (0,))))
        self.assert_same(self.assert_reads("a : h ? / k ? a / m ? / n ? a").holes, ("h", "k", "m", "n"))
        self.assert_reads(f"{INPUTS} : h ? f e d c b a / x {'01' * 32} a b c d e f")
        self.assert_reads("a : " + " / ".join(f"g{at} 1" for at in range(24)))

    def test_off_an_object_and_by_name(self):
        self.assertEqual(str(Net.read(text="a :")), "a :")
        self.assertEqual(str(Net(["b"], []).read("a : k 1")), "a : k 1")


class WrongTexts(Told):
    def assert_bad(self, item, text):
        with self.subTest(text=text):
            self.assert_raises(BadText(0, item), Net.read, text)

    def test_what_is_no_string(self):
        for value in (None, True, 0, b"a :", ["a", ":"], ("a", ":"), {"a :": 1}, object(), Net, Net(["a"], [])):
            self.assert_bad(0, value)

    def test_inputs(self):
        for item, text in (
            (0, ""), (0, " "), (0, ":"), (0, ": a"), (0, "/"), (0, "?"), (0, "A :"), (0, "7 :"), (0, "a: b"), (0, "a:"),
            (0, " a :"), (0, "a\n :"), (0, "a\t:"), (0, "abcdefghijklm :"), (1, "a"), (1, "a a :"), (1, "a  :"),
            (1, "a /"),
            (1, "a ?"), (1, "a 01"), (1, "a B :"), (1, "a b: c"), (2, "a b"), (2, "a b a :"), (6, INPUTS),
            (6, INPUTS + " g :"),
            (6, INPUTS + " a :"), (6, INPUTS + " "),
        ):
            self.assert_bad(item, text)

    def test_names_of_gates(self):
        for item, text in (
            (2, "a : "), (2, "a :  "), (2, "a : a ?"), (2, "a : : ?"), (2, "a : / h ?"), (2, "a : ? a"),
            (2, "a : 01 a"), (2, "a : H ?"),
            (3, "a : h"), (4, "a : h ?  / k ?"), (4, "a : h ? // k ?"), (5, "a : h ? / h ?"), (5, "a : h ? / a 1"),
            (5, "a : h ? /"),
            (5, "a : h ? / "), (5, "a : h ? / / k ?"), (5, "a : h ? /  k ?"), (5, "a : h ? / 7 ?"), (6, "a : h ? / k"),
        ):
            self.assert_bad(item, text)

    def test_tables(self):
        for item, text in (
            (3, "a : h "), (3, "a : h a"), (3, "a : h / k ?"), (3, "a : h :"), (3, "a : h ??"), (3, "a : h 2"),
            (3, "a : h 011 a"),
            (3, "a : h -1"), (3, "a : h \u0661"), (3, "a : h 01\n a"), (3, "a : h 0110 a"), (3, "a : h 0110"),
            (3, "a : h 00000000 a a a"), (4, "a b : h 00000000 a b"), (7, "a : h 01 a / k 00000000 a h"),
            (6, "a : h ? / k 011 a h"),
        ):
            self.assert_bad(item, text)

    def test_tables_of_more_places_than_wires_are_ahead_or_than_six(self):
        for ahead in range(1, 7):
            inputs = " ".join(NAMES_OF_INPUTS[:ahead])
            for places in range(10):
                text = f"{inputs} : x {'1' * 2 ** places} {INPUTS} a a a"
                if places <= ahead:
                    # Then as many sources can stand, and the next one can't.
                    self.assert_bad(ahead + 3 + places, text)
                else:
                    self.assert_bad(ahead + 2, text)
        self.assert_bad(11, f"{INPUTS} : g 1 / x {'1' * 128} {INPUTS} g")
        self.assert_bad(14, f"{INPUTS} : g 1 / i 0 / x {'1' * 256} {INPUTS} g i")

    def test_sources_of_gates(self):
        for item, text in (
            (4, "a : h 01"), (4, "a : h 01 "), (4, "a : h 01 b"), (4, "a : h 01 h"), (4, "a : h 01 / k 1"),
            (5, "a : h 01 a b"),
            (5, "a : h 01 a a"), (5, "a : h 01 a "), (5, "a : h 01 a :"), (5, "a : h 01 a ?"), (4, "a : h 1 a"),
            (6, "a b : c 0110 a"),
            (6, "a b : c 0110 a a"), (6, "a b : c 0110 a / d 1"), (5, "a b : c 0110 /"), (6, "a b : c 0110 a c"),
            (5, "a b : c 0110"),
            (4, "a : h 01 k / k 1"), (8, "a : h ? / k 0110 a k"), (8, "a : h ? / k 0110 h h"), (4, "a : h 01 A"),
        ):
            self.assert_bad(item, text)

    def test_sources_of_holes(self):
        for item, text in (
            (4, "a : h ? b"), (4, "a : h ? h"), (4, "a : h ? "), (4, "a : h ? :"), (4, "a : h ? ?"),
            (4, "a : h ? 01"), (4, "a : h ? A"),
            (4, "a : h ? k / k 1"), (5, "a : h ? a a"), (5, "a : h ? a "), (7, "a : h ? / k ? h a"),
            (8, "a : h ? / k ? a h"),
            (8, "a : h ? a / k ? h"), (11, "a : h ? / x 10 h / k ? x"), (18, f"{INPUTS} : k 1 / h ? {INPUTS} k"),
        ):
            self.assert_bad(item, text)

    def test_a_fifth_hole(self):
        self.assert_bad(15, "a : h ? / k ? / m ? / n ? / o ?")
        self.assert_bad(15, "a : h ? / k ? / m ? / n ? / o ? z")
        self.assert_bad(19, "a : h ? a / k ? a / m ? a / n ? a / o ? a")
        self.assertEqual(len(Net.read("a : h ? / k ? / m ? / n ? / o 1").gates), 5)

    def test_a_25th_gate(self):
        # No net has a text that goes on behind the 24th gate, so there the stroke can't stand.
        gates = " / ".join(f"g{at} 1" for at in range(24))
        self.assertEqual(len(Net.read(f"a : {gates}").gates), 24)
        for more in (" /", " / ", " / x 1", " / x"):
            self.assert_bad(2 + 3 * 24 - 1, f"a : {gates}{more}")

    def test_the_first_wrong_item_counts(self):
        self.assert_bad(1, "a a : h 011 z / h")
        self.assert_bad(3, "a : h 011 z / h")
        self.assert_bad(4, "a : h 01 z / h")
        self.assert_bad(6, "a : h 01 a / h")
        self.assert_bad(1, "a A" + " z" * 9000)


class EachItem(Told):
    """Each item of many texts left out, put in, exchanged, emptied: told by asking what can go on."""

    def assert_told(self, items):
        text = " ".join(items)
        at = first_wrong_item(items, [item for item in items if is_name(item)])
        with self.subTest(text=text):
            if at is None:
                self.assertEqual(str(Net.read(text)), text)
            else:
                self.assert_raises(BadText(0, at), Net.read, text)

    def small_texts(self):
        texts = [str(net).split(" ") for net in some_nets(60, seed=3, most_inputs=2, most_gates=3, most_holes=2)]
        return [items for items in texts if len(items) > 4 and max(map(len, items)) <= 4][:16]

    def test_left_out_and_cut_off(self):
        for items in self.small_texts():
            for at in range(len(items)):
                self.assert_told(items[:at] + items[at + 1:])
                self.assert_told(items[:at] or [""])

    def test_exchanged(self):
        for items in self.small_texts():
            for at in range(len(items)):
                for item in ("", "a", "g0", "z", "/", ":", "?", "1", "01", "0110", "011"):
                    self.assert_told(items[:at] + [item] + items[at + 1:])

    def test_put_in(self):
        for items in self.small_texts():
            for at in range(len(items) + 1):
                for item in ("", "a", "g0", "/", "?", "01"):
                    self.assert_told(items[:at] + [item] + items[at:])

    def test_two_neighbours_exchanged(self):
        for items in self.small_texts():
            for at in range(len(items) - 1):
                self.assert_told(items[:at] + [items[at + 1], items[at]] + items[at + 2:])


class ShortTimes(Told):
    def test_the_greatest_net_and_long_texts(self):
        begin = time.process_time()
        net = greatest_net()
        self.assertEqual(Net.read(str(net)), net)
        self.assert_raises(BadText(0, 0), Net.read, "a" * 20000)
        self.assert_raises(BadText(0, 0), Net.read, " " * 20000)
        self.assert_raises(BadText(0, 1), Net.read, "a " * 10000)
        self.assert_raises(BadText(0, 3), Net.read, "a : h " + "1" * 19000)
        self.assert_raises(BadText(0, 4), Net.read, "a : h ? " + "h " * 9000)
        self.assertLess(time.process_time() - begin, 2)
