"""The examples of the document, as they stand there."""

import unittest

from holegates import (
    check_forms, check_ladders, check_mends, check_sights, check_single, check_unlike, checks, errors, forms, freerows,
    ladders, leastbars, mends, nets, papers, parting, sights, single, tables, tasks, unlike, wires,
)

# The order is that of the document: an example uses names as earlier ones made them last.
MODULES = {
    "errors": errors, "checks": checks, "papers": papers, "tables": tables, "nets": nets, "wires": wires,
    "tasks": tasks, "parting": parting, "single": single, "check_single": check_single, "ladders": ladders,
    "check_ladders": check_ladders, "forms": forms, "check_forms": check_forms, "unlike": unlike,
    "leastbars": leastbars, "check_unlike": check_unlike, "sights": sights, "check_sights": check_sights,
    "mends": mends, "freerows": freerows, "check_mends": check_mends,
}

EXAMPLES = {
    "checks": """\
>>> [is_integer(True), is_within(3, None, 3), is_sign(1), is_sign(True), are_signs([0, 1]), are_signs("01"), is_name("a7"), is_name("A"), first_twice([2, 1, 2, 1])]
[False, True, True, False, True, False, True, False, 2]
""",
    "papers": """\
>>> [fixed([1, [None, (2, [])], "a"]), bool(Paper("note", [1])), bool(Denial("note")), Paper("note", [1]) == Paper("note", (1,)), Paper("note", 1) == Denial("note", 1)]
[(1, (None, (2, ())), 'a'), True, False, True, False]
""",
    "tables": """\
>>> [is_table((0, 1, 1, 0)), is_table([1]), is_table((0, 1, 1)), is_table((0, True)), places_of((0, 1, 1, 0)), row_of((1, 0)), row_of(()), setting_of(3, 5)]
[True, True, False, False, 2, 2, 0, (1, 0, 1)]
>>> odd = (0, 1, 1, 0)
>>> [contrary(odd), both(odd, (0, 0, 1, 1)), either(odd, [0, 0, 0, 1]), unlike((0, 0, 1, 1), (0, 1, 0, 1)), sign_at(odd, (1, 0))]
[(1, 0, 0, 1), (0, 0, 1, 0), (0, 1, 1, 1), (0, 1, 1, 0), 1]
>>> [with_sign(odd, 0, 1), for_some((0, 0, 0, 1), 1), for_all((0, 1, 1, 1), 0), hangs_on((0, 0, 1, 1)), follows((0, 0, 0, 1), (0, 1, 1, 1)), follows(odd, (0, 0, 1, 1))]
[(1, 0), (0, 1), (0, 1), (0,), True, False]
>>> [in_order((0, 0, 1, 0), [1, 0]), put_in(odd, [(0, 0, 1, 1), (0, 1, 0, 1)]), put_in((0, 0, 0, 1), [odd, (1, 1, 0, 0)]), put_in((1,), [])]
[(0, 1, 0, 0), (0, 1, 1, 0), (0, 1, 0, 0), (1,)]
>>> [table_text(odd), read_table("10")]
['0110', (1, 0)]
>>> read_table("011")
raises BadText(0, 0)
>>> both((0, 1), odd)
raises Misfit('places')
>>> for_some((0, 1), 1)
raises NoPlace(1)
""",
    "nets": """\
>>> net = Net(["a", "b"], [("h", ["a", "b"], None), ("n", ["a"], (1, 0)), ("out", ["h", "n"], [0, 1, 1, 0])])
>>> [str(net), net.wires, net.holes, Net.read(str(net)) == net]
['a b : h ? a b / n 10 a / out 0110 h n', ('a', 'b', 'h', 'n', 'out'), ('h',), True]
>>> [net.sources("out"), net.behind("a"), net.behind("b"), net.is_sure("n"), net.is_sure("h"), net.is_sure("out")]
[('h', 'n'), ('h', 'n', 'out'), ('h', 'out'), True, False, False]
>>> whole = net.put("h", [0, 0, 0, 1])
>>> [str(whole), str(whole.struck("out")), str(whole.struck("out", ["b"])), net.struck("n").holes]
['a b : h 0001 a b / n 10 a / out 0110 h n', 'a b : h 0001 a b / n 10 a / out ? h n', 'a b : h 0001 a b / n 10 a / out ? b', ('h', 'n')]
>>> net.struck("out")
raises Misfit('sure')
>>> Net(["a"], [("b", ["c"], (0, 1)), ("a", [], (1,))])
raises Twice('a')
>>> Net.read("a : h ? a / k ? h")
raises BadText(0, 8)
>>> Net.read("a b : c 0110 a")
raises BadText(0, 6)
""",
    "wires": """\
>>> [run(net, 2, [1]), run(net, 0, (0,)), column(net, "n"), column(net, "b")]
[(1, 0, 1, 0, 1), (0, 0, 0, 1, 1), (1, 1, 0, 0), (0, 1, 0, 1)]
>>> [same_wire(whole, Net.read("a b : out 1101 a b"), "out").word, same_wire(whole, Net.read("a b : out 1001 b a"), "out").parts]
['alike', (1,)]
>>> column(net, "out")
raises Misfit('hole')
""",
    "tasks": """\
>>> net = Net.read("a b : n 10 a / h ? a n / k ? b / x 0110 h k / out 0111 x a")
>>> task = Task(net, "out")
>>> [task.many, task.holes, task.sights, [task.view(0, row) for row in range(4)], task.unknowns()]
[4, ('h', 'k'), (('a', 'n'), ('b',)), [1, 1, 2, 2], ((0, 1), (0, 2), (1, 0), (1, 1))]
>>> [task.right_choices(0), task.right_choices(3)]
[((0, 1), (1, 0)), ((0, 0), (0, 1), (1, 0), (1, 1))]
>>> some = [[0, 1, 0, 0], [0, 0]]
>>> [task.choice(some, 1), task.is_right(some), task.first_wrong([[0, 1, 0, 0], [0, 1]]), task.plain([[1, 1, 1, 1], [0, 0]])]
[(1, 0), True, 1, ((0, 1, 1, 0), (0, 0))]
>>> [str(task.filled(some)), task.with_hole(1, [0, 0]).right_choices(1), Task(net, "b").right_choices(0)]
['a b : n 10 a / h 0100 a n / k 00 b / x 0110 h k / out 0111 x a', ((1,),), ()]
>>> task.is_right([[0, 1, 0, 0]])
raises BadFilling('filling')
""",
    "parting": """\
>>> [asks(task, 0), asks(task, 3), parts_of(task)]
[(0, 1), (), (((0, 1), ((0, 1), (1, 0), (1, 1))), ((2,), ()), ((3,), ()))]
""",
    "single": """\
>>> net = Net.read("a b : h ? a b / u 0001 a h / v 0010 b h / w 0111 u v / x 0111 a b / out 1001 w x")
>>> task = Task(net, "out")
>>> [between(task).parts, free_views(task), how_many(task), table_at(task, 1), number_of(task, [1, 0, 1, 0])]
[((0, 0, 1, 0), (1, 0, 1, 1)), (0, 3), 4, (0, 0, 1, 1), 2]
>>> odd = Task(Net.read("a b : h ? a b / u 0001 a h / v 0010 b h / w 0111 u v / x 0110 a b / out 1001 w x"), "out")
>>> [between(odd).parts, bool(between(odd)), how_many(odd)]
[(3, 3), False, 0]
>>> blind = Task(Net.read("a b : h ? / u 0001 a h / v 0010 b h / w 0111 u v / x 0111 a b / out 1001 w x"), "out")
>>> [between(blind).parts, between(Task(Net.read("a : n 10 a / h ? a n / out 10 h"), "out")).parts]
[(2, 1), ((0, 0, 0, 0), (0, 0, 0, 0))]
>>> table_at(task, 4)
raises BadNumber("number")
>>> number_of(task, (0, 1, 1, 0))
raises BadTable("table")
""",
    "check_single": """\
>>> [shows_between(task, between(task)), shows_between(odd, Clash(3, 3)), shows_between(blind, Clash(1, 2)), shows_between(task, Between([0, 0, 1, 0], [0, 0, 1, 1]))]
[True, True, False, False]
""",
    "ladders": """\
>>> some = Task(Net.read("a b : h ? a b / k ? a / s 0110 h k / out 1001 s b"), "out")
>>> [ladder(some), how_many(some), plan(some).word, some.is_right(plan(some).filling)]
[(1, 0), 4, 'plan', True]
>>> free = Task(Net.read("a b : h ? a / k ? a b / out 11111001 h k b"), "out")
>>> [ladder(free), how_many(free), bool(plan(free)), plan(Task(Net.read("a b : h ? a / k ? a / s 0110 h k / out 1001 s b"), "out")).word]
[(0, 1), 25, True, 'trap']
>>> ladder(Task(Net.read("a b : h ? a / k ? b / out 0110 h k"), "out"))
raises Misfit('sights')
""",
    "check_ladders": """\
>>> blind = Task(Net.read("a b : h ? a / k ? a / s 0110 h k / out 1001 s b"), "out")
>>> [shows_plan(blind, Trap(tree)) for tree in ((0, (0, 1, 0), (0, 0, 1)), [1, [1, 3, 2], [1, 2, 3]], (0, (1, 3, 2), (0, 0, 1)), (0, (0, 0, 1), (0, 0, 1)))]
[True, True, False, False]
>>> [shows_plan(free, Plan([[1, 1], [0, 1, 0, 1]])), shows_plan(free, Plan([[1, 1], [0, 1, 0, 0]])), shows_plan(some, Plan([[0, 0, 0, 1], [0, 0]]))]
[True, False, False]
""",
    "forms": """\
>>> free = Task(Net.read("a b : h ? a / k ? a b / out 11111001 h k b"), "out")
>>> form = form_of(free)
>>> [form, comes_of(free, form, [[1, 0], [1, 1, 1, 0]])]
[((0, 1, 0, 1), (0, 1, 0, 0, 0, 1, 1, 1, 0, 1, 0, 0, 0, 1, 1, 1)), ((1, 0), (0, 1, 1, 0))]
>>> some = Task(Net.read("a b : h ? a b / k ? a / s 0110 h k / out 1001 s b"), "out")
>>> [form_of(some) == ((0, 0, 1, 1, 1, 1, 0, 0) * 2, (0, 1) * 2), sound(some, form_of(some)).word, bool(faithful(some, form_of(some)))]
[True, 'sound', True]
>>> own, one = ((0, 1) * 8, (0, 1) * 2), ((0, 0, 0, 0, 1, 1, 1, 1) * 2, (0,) * 4)
>>> [sound(some, own).word, faithful(some, own).word, sound(some, one).word, faithful(some, one).word, is_form(some, one[::-1])]
['strays', 'faithful', 'sound', 'bends', False]
""",
    "check_forms": """\
>>> [shows_sound(some, own, Strays(0, (1, 0))), shows_sound(some, own, Strays(0, (1, 1))), shows_faithful(some, one, Bends(0, [1, 1])), shows_faithful(some, one, Bends(0, (1, 0)))]
[True, False, True, False]
""",
    "unlike": """\
>>> halves = Task(Net.read("a b : h ? a / k ? b / x 0110 h k / w 0001 a b / out 1001 x w"), "out")
>>> middle = Task(Net.read("a b c : h ? a b / k ? b c / out 1001 h k"), "out")
>>> off = Task(Net.read("a b : h ? a / k ? b / out 1110 h k"), "out")
>>> [settle(halves).word, bool(settle(halves)), how_many(halves)]
['refused', False, 0]
>>> [bool(settle(middle)), how_many(middle), how_many(off)]
[True, 4, 7]
>>> loose = Task(Net.read("a b : h ? a / k ? b / out 01 h"), "out")
>>> [how_many(loose), settle(loose).filling[0]]
[4, (1, 1)]
>>> wide = Task(Net.read("a b c d : h ? a b c d / out 01 h"), "out")
>>> settle(wide)
raises TooMany('unknowns', 12)
""",
    "leastbars": """\
>>> lost = Task(Net.read("a : h ? a / out 00 h"), "out")
>>> [fewest_rows(halves), fewest_rows(lost), fewest_rows(middle)]
[(0, 1, 2, 3), (0,), None]
>>> fewest_rows(Task(Net.read("a b c d : h ? a / out 01 h"), "out"))
raises TooMany('rows', 8)
""",
    "check_unlike": """\
>>> tree = (0, 0, (1, 0, (1, 1, (0, 1, 3, 2), 1), 0), (1, 0, 0, (1, 1, 1, (0, 1, 2, 3))))
>>> [shows_settled(halves, Refused(tree)), shows_settled(halves, Refused((0, 0, 0, 1))), shows_settled(lost, Refused(1)), shows_settled(middle, Refused(tree))]
[True, False, True, False]
>>> [shows_settled(middle, Settled([[0, 1, 0, 1], [0, 0, 1, 1]])), shows_settled(middle, Settled([[0, 0, 1, 1], [0, 0, 1, 1]])), shows_settled(loose, Settled(((1, 1), (1, 0))))]
[True, False, True]
""",
    "sights": """\
>>> net = Net.read("a b c : w 0001 a b / h ? a / out 1001 h w")
>>> task = Task(net, "out")
>>> [len(apart(task)), apart(task)[0], apart(task)[-1]]
[12, (6, 0), (7, 5)]
>>> [enough(task, ["b", "a"]).table, enough(task, ["w", "c"]).table, enough(task, ["a"]).word, enough(task, ["a", "c"]) in (Short(6, 4), Short(7, 5))]
[(0, 0, 0, 1), (0, 0, 1, 1), 'short', True]
>>> [tight_sights(task, ["w", "c", "b", "a"]), needed(task, ["a", "b", "c"]), needed(task, net.inputs + ("w",)), tight_sights(task, ["a", "c"])]
[(('w',), ('a', 'b')), ('a', 'b'), (), ()]
>>> free, lost = Task(Net.read("a : h ? a / out 11 h"), "out"), Task(Net.read("a : h ? / out 0011 a h"), "out")
>>> [apart(free), tight_sights(free, ["a"]), enough(free, []).table, apart(lost), enough(lost, ["a"]) == Short(0, 0), tight_sights(lost, ["a"])]
[(), ((),), (0,), ((0, 0),), True, ()]
>>> enough(task, ["a", "z"])
raises NoWire("z")
>>> enough(task, ["a", "out"])
raises Misfit("hole")
""",
    "check_sights": """\
>>> [shows_enough(task, ["b", "a"], Enough([0, 0, 0, 1])), shows_enough(task, ["a", "b"], Enough([0, 0, 1, 1])), shows_enough(free, ["a"], Enough([1, 0]))]
[True, False, True]
>>> [shows_enough(task, ["a", "c"], Short(7, 5)), shows_enough(task, ["a", "c"], Short(7, 4)), shows_enough(task, ["a"], Short(4, 6))]
[True, False, False]
""",
    "mends": """\
>>> net = Net.read("a b : g 0001 a b / out 1011 g a")
>>> [mend(net, "out", "g"), mend(net, "out", "g", ["b"]), mend(net, "out", "out")] == [Between((0, 0, 1, 1), (1, 1, 1, 1)), Between((1, 1), (1, 1)), Between((1, 1, 0, 1), (1, 1, 0, 1))]
True
>>> twin = Net.read("a b : g 0001 a b / k 0111 a b / out 0001 g k")
>>> [mendable(net, "out"), mendable_by_all(twin, "out"), two_mends(twin, "out"), mend(twin, "out", "g") == Clash(0, 0)]
[('g', 'out'), ('out',), (('g', 'k'),), True]
>>> mend(net, "out", "a")
raises NoWire('a')
""",
    "freerows": """\
>>> kept = Net.read("a : g 01 a / k 01 a / out 11110111 a g k")
>>> [free_rows(kept, "out", "g"), free_rows(kept, "out", "k"), free_rows(kept, "out", "out")]
[(0, 1), (0, 1), (1, 2, 3, 4, 5, 6)]
>>> [idle(kept, "out", [("g", 1)]).word, idle(kept, "out", [("g", 1), ("k", 0)]).word, idle(kept, "out", [("g", 1), ("k", 1)]) == Matters(1, (0, 0))]
['idle', 'idle', True]
>>> free_rows(net, "out", "g")
raises Impossible(Wrong(2))
""",
    "check_mends": """\
>>> [shows_idle(kept, "out", [("g", 1), ("k", 1)], Matters(1, [0, 0])), shows_idle(kept, "out", [("g", 1), ("k", 1)], Matters(0, (0, 0))), shows_idle(kept, "out", [("g", 1)], Idle())]
[True, False, True]
""",
}


def steps(example):
    """The lines with a prompt, each with the line that tells what comes, if there is one."""
    found = []
    for line in example.splitlines():
        if line.startswith(">>> "):
            found.append([line.removeprefix(">>> "), None])
        else:
            found[-1][1] = line
    return found


def own_names(module):
    """What the module defines itself: two sections may have functions of one name."""
    return {name: value for name, value in vars(module).items() if getattr(value, "__module__", "") == module.__name__}


class Examples(unittest.TestCase):
    def assert_holds(self, asked, told, names):
        if told is None:
            exec(asked, names)
        elif told.startswith("raises "):
            expected = eval(told.removeprefix("raises "), names)
            with self.assertRaises(errors.HoleError) as caught:
                eval(asked, names)
            self.assertIs(type(caught.exception), type(expected))
            found = vars(caught.exception)
            self.assertEqual(found, vars(expected))
            self.assertEqual([*map(type, found.values())], [*map(type, vars(expected).values())])
        else:
            self.assertEqual(repr(eval(asked, names)), told)

    def test_all_sections(self):
        names = {}
        for section, module in MODULES.items():
            names.update(own_names(module))
            for asked, told in steps(EXAMPLES.get(section, "")):
                with self.subTest(section=section, asked=asked):
                    self.assert_holds(asked, told, names)

    def test_each_example_has_its_module(self):
        self.assertEqual([*EXAMPLES], [section for section in MODULES if section != "errors"])
