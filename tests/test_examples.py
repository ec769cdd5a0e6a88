"""The examples of the document, as they stand there."""

import unittest

from holegates.checks import are_signs, first_twice, is_integer, is_name, is_sign, is_within
from holegates.papers import Denial, Paper, fixed

NAMES = {
    "are_signs": are_signs, "first_twice": first_twice, "is_integer": is_integer, "is_name": is_name,
    "is_sign": is_sign, "is_within": is_within, "Denial": Denial, "Paper": Paper, "fixed": fixed,
}

CHECKS = """\
>>> [is_integer(True), is_within(3, None, 3), is_sign(1), is_sign(True), are_signs([0, 1]), are_signs("01"), is_name("a7"), is_name("A"), first_twice([2, 1, 2, 1])]
[False, True, True, False, True, False, True, False, 2]
"""

PAPERS = """\
>>> [fixed([1, [None, (2, [])], "a"]), bool(Paper("note", [1])), bool(Denial("note")), Paper("note", [1]) == Paper("note", (1,)), Paper("note", 1) == Denial("note", 1)]
[(1, (None, (2, ())), 'a'), True, False, True, False]
"""


class Examples(unittest.TestCase):
    def assert_holds(self, example):
        asked, told = example.splitlines()
        self.assertEqual(repr(eval(asked.removeprefix(">>> "), dict(NAMES))), told)

    def test_checks(self):
        self.assert_holds(CHECKS)

    def test_papers(self):
        self.assert_holds(PAPERS)
