"""The papers of all classes of the package, and its interface: names, arguments, where things are defined."""

import importlib
import inspect
import itertools
import pkgutil

import holegates
from holegates.papers import Denial, Paper
from tests.support import RaisesAlways, Told, wrong_values

# Of each class of papers its module, its parameters in order, and whether it is a denial.
PAPERS = {
    "Alike": ("wires", (), False), "Unlike": ("wires", ("row",), True),
    "Between": ("single", ("least", "greatest"), False), "Clash": ("single", ("one", "other"), True),
    "Plan": ("ladders", ("filling",), False), "Trap": ("ladders", ("tree",), True),
    "Sound": ("forms", (), False), "Strays": ("forms", ("row", "signs"), True),
    "Faithful": ("forms", (), False), "Bends": ("forms", ("row", "signs"), True),
    "Settled": ("unlike", ("filling",), False), "Refused": ("unlike", ("tree",), True),
    "Enough": ("sights", ("table",), False), "Short": ("sights", ("one", "other"), True),
    "Wrong": ("freerows", ("row",), True), "Idle": ("freerows", (), False),
    "Matters": ("freerows", ("row", "signs"), True),
}

# Of each module its functions with their parameters.
FUNCTIONS = {
    "checks": {
        "is_integer": "value", "is_within": "value least most", "is_sign": "value", "are_signs": "value",
        "is_name": "value", "first_twice": "values",
    },
    "papers": {"fixed": "value"},
    "tables": {
        "is_table": "value", "places_of": "table", "row_of": "setting", "setting_of": "places row",
        "sign_at": "table setting", "contrary": "table", "both": "one other", "either": "one other",
        "unlike": "one other", "follows": "one other", "with_sign": "table place sign", "for_some": "table place",
        "for_all": "table place", "hangs_on": "table", "in_order": "table order", "put_in": "table tables",
        "table_text": "table", "read_table": "text",
    },
    "wires": {"run": "net row choice", "column": "net name", "same_wire": "one other name"},
    "parting": {"asks": "task row", "parts_of": "task"},
    "single": {
        "between": "task", "free_views": "task", "how_many": "task", "table_at": "task number",
        "number_of": "task table",
    },
    "check_single": {"shows_between": "task value"},
    "ladders": {"ladder": "task", "plan": "task", "how_many": "task"},
    "check_ladders": {"shows_plan": "task value"},
    "forms": {
        "is_form": "task value", "comes_of": "task form free", "form_of": "task", "sound": "task form",
        "faithful": "task form",
    },
    "check_forms": {"shows_sound": "task form value", "shows_faithful": "task form value"},
    "unlike": {"settle": "task", "how_many": "task"},
    "leastbars": {"fewest_rows": "task"},
    "check_unlike": {"shows_settled": "task value"},
    "sights": {"apart": "task", "enough": "task wires", "tight_sights": "task wires", "needed": "task wires"},
    "check_sights": {"shows_enough": "task wires value"},
    "mends": {
        "mend": "net wish name sources", "mendable": "net wish", "mendable_by_all": "net wish",
        "two_mends": "net wish",
    },
    "freerows": {"free_rows": "net wish name", "idle": "net wish rows"},
    "check_mends": {"shows_idle": "net wish rows value"},
}

CLASSES = {
    ("nets", "Net"): {
        "__init__": "self inputs gates", "__eq__": None, "__str__": "self", "sources": "self name",
        "behind": "self name", "is_sure": "self name", "put": "self name table", "struck": "self name sources",
        "read": None,
    },
    ("tasks", "Task"): {
        "__init__": "self net wish", "__eq__": None, "view": "self hole row", "right_choices": "self row",
        "unknowns": "self", "choice": "self filling row", "is_right": "self filling", "first_wrong": "self filling",
        "plain": "self filling", "filled": "self filling", "with_hole": "self hole table",
    },
    ("papers", "Paper"): {"__init__": None, "__eq__": None, "__bool__": None},
    ("papers", "Denial"): {"__init__": None, "__eq__": None, "__bool__": None},
}


def module_of(name):
    return importlib.import_module(f"holegates.{name}")


def class_of(name):
    return getattr(module_of(PAPERS[name][0]), name)


def parameters(function):
    return " ".join(inspect.signature(function).parameters)


class AllClassesOfPapers(Told):
    def test_there_are_no_others(self):
        found = {}
        for info in pkgutil.iter_modules(holegates.__path__):
            for name, value in vars(module_of(info.name)).items():
                if inspect.isclass(value) and issubclass(value, Paper) and value not in (Paper, Denial):
                    self.assertEqual(value.__name__, name)
                    found[name] = value.__module__.removeprefix("holegates.")
        self.assertEqual(found, {name: module for name, (module, _, _) in PAPERS.items()})

    def test_word_parts_and_fields(self):
        for name, (_, fields, is_denial) in PAPERS.items():
            made = class_of(name)
            values = [[at, [(at,), "x"]] for at, _ in enumerate(fields)]
            expected = tuple((at, ((at,), "x")) for at, _ in enumerate(fields))
            by_name = dict(zip(fields, values))
            for paper in (made(*values), made(**by_name), made(**dict(reversed(by_name.items())))):
                self.assert_same((paper.word, paper.parts), (name.lower(), expected))
                self.assert_same(tuple(getattr(paper, field) for field in fields), expected)
                self.assertIs(bool(paper), not is_denial)
                self.assertIs(isinstance(paper, Denial), is_denial)
                self.assertIsInstance(paper, Paper)

    def test_any_values_are_kept(self):
        for name, (_, fields, _) in PAPERS.items():
            for value in wrong_values() + [RaisesAlways()]:
                if isinstance(value, list):
                    continue
                paper = class_of(name)(*[value for _ in fields])
                for field, part in zip(fields, paper.parts):
                    self.assertIs(getattr(paper, field), value)
                    self.assertIs(part, value)

    def test_as_many_parts_as_told(self):
        for name, (_, fields, _) in PAPERS.items():
            made = class_of(name)
            self.assertRaises(TypeError, made, *range(len(fields) + 1))
            if fields:
                self.assertRaises(TypeError, made, *range(len(fields) - 1))

    def test_equal_just_to_their_like(self):
        papers = []
        for name, (_, fields, _) in PAPERS.items():
            for values in itertools.product((0, (0,), (1, 0)), repeat=len(fields)):
                papers.append(class_of(name)(*values))
        others = [made(paper.word, *paper.parts) for paper in papers for made in (Paper, Denial)]
        for one, paper in enumerate(papers):
            for two, other in enumerate(papers):
                self.assertIs(paper == other, one == two)
                self.assertIs(paper != other, one != two)
            again = type(paper)(*[list(part) if isinstance(part, tuple) else part for part in paper.parts])
            self.assertIs(paper == again, True)
            for other in [*others, paper.parts, paper.word, None, True, 0, 1]:
                self.assertIs(paper == other, False)

    def test_classes_below_are_others(self):
        for name, (_, fields, _) in PAPERS.items():
            made = class_of(name)
            below = type("Below", (made,), {})
            values = [0 for _ in fields]
            self.assertIs(below(*values) == made(*values), False)
            self.assertIs(made(*values) == below(*values), False)

    def test_whatever_becomes_of_what_was_passed(self):
        for name, (_, fields, _) in PAPERS.items():
            values = [[0, [1, [2]]] for _ in fields]
            paper = class_of(name)(*values)
            again = class_of(name)(*[(0, (1, (2,))) for _ in fields])
            for value in values:
                value[1][1].append(3)
                value[1].append(4)
                value.clear()
            self.assertEqual(paper, again)
            self.assert_same(paper.parts, tuple((0, (1, (2,))) for _ in fields))


class Interface(Told):
    def test_functions(self):
        for module, functions in FUNCTIONS.items():
            for name, told in functions.items():
                function = getattr(module_of(module), name)
                self.assertEqual(function.__module__, f"holegates.{module}")
                self.assertEqual(parameters(function), told)

    def test_classes(self):
        for (module, name), methods in CLASSES.items():
            made = getattr(module_of(module), name)
            self.assertEqual(made.__module__, f"holegates.{module}")
            for method, told in methods.items():
                self.assertIn(method, vars(made))
                if told is not None:
                    self.assertEqual(parameters(vars(made)[method]), told)

    def test_papers(self):
        for name, (module, fields, _) in PAPERS.items():
            made = class_of(name)
            self.assertEqual(made.__module__, f"holegates.{module}")
            self.assertIn("__init__", vars(made))
            self.assertEqual(parameters(made), " ".join(fields))
