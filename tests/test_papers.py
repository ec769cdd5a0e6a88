"""Papers and denials."""

import unittest

from holegates.papers import Denial, Paper, fixed


class Between(Paper):
    def __init__(self, least, greatest):
        Paper.__init__(self, "between", least, greatest)
        self.least, self.greatest = self.parts


class Likewise(Paper):
    """Another class, with the word of Between."""

    def __init__(self, least, greatest):
        super().__init__("between", least, greatest)


class Clash(Denial):
    def __init__(self, one, other):
        Denial.__init__(self, "clash", one, other)
        self.one, self.other = self.parts


class Narrower(Between):
    """A class below Between that changes nothing."""


class EqualsAll:
    def __eq__(self, other):
        return True


class Fixed(unittest.TestCase):
    def assert_same(self, found, expected):
        # A tuple is no list and True is not 1, though some of these are equal in Python.
        self.assertEqual(repr(found), repr(expected))

    def test_lists_become_tuples_all_the_way_in(self):
        self.assert_same(fixed([]), ())
        self.assert_same(fixed([1, 2]), (1, 2))
        self.assert_same(fixed([1, [2, [3, [4, []]]]]), (1, (2, (3, (4, ())))))
        self.assert_same(fixed((1, [2, (3, [4, ([],)])])), (1, (2, (3, (4, ((),))))))
        self.assert_same(fixed([(1, 2), [3], "ab"]), ((1, 2), (3,), "ab"))

    def test_tuples_without_lists_stay(self):
        for value in ((), (1,), (1, (2, ("a", None)))):
            self.assert_same(fixed(value), value)

    def test_other_values_stay(self):
        for value in (0, 1, -5, 10 ** 99, "", "ab", "[1]", b"ab", True, False, None, 1.5, {"a": [1]}, {1, 2}, object()):
            with self.subTest(value=value):
                self.assertIs(fixed(value), value)

    def test_lists_within_other_values_stay(self):
        inner = {"a": [1, [2]]}
        self.assertIs(fixed([inner])[0], inner)
        self.assertEqual(inner, {"a": [1, [2]]})

    def test_signs_and_truths_are_kept_apart(self):
        self.assert_same(fixed([True, 1, False, 0]), (True, 1, False, 0))

    def test_thirty_deep(self):
        value = expected = "x"
        for _ in range(30):
            value, expected = [value], (expected,)
        self.assert_same(fixed(value), expected)

    def test_what_is_passed_is_not_changed(self):
        value = [1, [2, (3, [4])]]
        fixed(value)
        self.assert_same(value, [1, [2, (3, [4])]])


class Parts(unittest.TestCase):
    def test_word_and_parts(self):
        for made in (Paper, Denial):
            paper = made("note", [1, [2]], "a", None, True)
            self.assertEqual(paper.word, "note")
            self.assertEqual(repr(paper.parts), "((1, (2,)), 'a', None, True)")

    def test_no_parts(self):
        for made in (Paper, Denial):
            self.assertEqual(made("note").parts, ())
            self.assertEqual(made(word="note").word, "note")
            self.assertEqual(made(word="note").parts, ())

    def test_what_is_changed_afterwards_changes_no_paper(self):
        for made in (Paper, Denial):
            row, outer = [1, 2], [[0], 5]
            paper = made("note", row, (outer, 6))
            row.append(3)
            outer[0].append(9)
            outer[1] = 7
            self.assertEqual(paper.parts, ((1, 2), (((0,), 5), 6)))

    def test_a_list_of_parts_that_is_passed_on_stays_free(self):
        parts = [[1], [2]]
        paper = Paper("note", *parts)
        parts[0].append(3)
        parts.pop()
        self.assertEqual(paper.parts, ((1,), (2,)))


class Truth(unittest.TestCase):
    def test_papers_are_true_and_denials_false(self):
        for parts in ((), (0,), ([],), (None, False), (1, "a")):
            self.assertIs(bool(Paper("note", *parts)), True)
            self.assertIs(bool(Denial("note", *parts)), False)
            self.assertIs(bool(Paper("", *parts)), True)
            self.assertIs(bool(Denial("", *parts)), False)

    def test_classes_below_them(self):
        self.assertIs(bool(Between(0, 0)), True)
        self.assertIs(bool(Narrower(0, 0)), True)
        self.assertIs(bool(Clash(1, 1)), False)


class Equality(unittest.TestCase):
    def assert_equal_both_ways(self, one, other):
        self.assertIs(one == other, True)
        self.assertIs(other == one, True)
        self.assertIs(one != other, False)
        self.assertIs(other != one, False)

    def assert_unlike_both_ways(self, one, other):
        self.assertIs(one == other, False)
        self.assertIs(other == one, False)
        self.assertIs(one != other, True)
        self.assertIs(other != one, True)

    def test_same_class_word_and_parts(self):
        for made in (Paper, Denial):
            one = made("note", 1, "a")
            self.assert_equal_both_ways(one, one)
            self.assert_equal_both_ways(one, made("note", 1, "a"))
            self.assert_equal_both_ways(made("note"), made("note"))

    def test_a_list_told_for_a_tuple(self):
        for made in (Paper, Denial):
            self.assert_equal_both_ways(made("note", [1, [2, (3,)]]), made("note", (1, (2, [3]))))

    def test_another_word(self):
        for made in (Paper, Denial):
            self.assert_unlike_both_ways(made("note", 1), made("other", 1))
            self.assert_unlike_both_ways(made("note", 1), made("Note", 1))

    def test_other_parts(self):
        for made in (Paper, Denial):
            note = made("note", 1, 2)
            for other in (made("note", 2, 1), made("note", 1), made("note", 1, 2, 3), made("note", (1, 2)),
                          made("note", 1, "2"), made("note"), made("note", 1, (2,)), made("note", 1, None)):
                self.assert_unlike_both_ways(note, other)

    def test_parts_are_compared_as_python_compares_them(self):
        for made in (Paper, Denial):
            self.assert_equal_both_ways(made("note", 1, [0]), made("note", True, (False,)))

    def test_unlike_classes(self):
        self.assert_unlike_both_ways(Paper("note", 1), Denial("note", 1))
        self.assert_unlike_both_ways(Between(1, 2), Paper("between", 1, 2))
        self.assert_unlike_both_ways(Between(1, 2), Likewise(1, 2))
        self.assert_unlike_both_ways(Between(1, 2), Narrower(1, 2))
        self.assert_unlike_both_ways(Clash(1, 2), Denial("clash", 1, 2))

    def test_values_that_are_no_papers(self):
        for paper in (Paper("note", 1), Denial("note", 1), Paper("note"), Between(1, 2), Clash(1, 2)):
            for value in (None, True, False, 0, 1, "note", (1,), [1], ("note", 1), ("note", (1,)), {}, object(), Paper):
                with self.subTest(paper=paper.word, value=value):
                    self.assert_unlike_both_ways(paper, value)

    def test_a_value_of_another_class_has_no_say(self):
        for paper in (Paper("note", 1), Denial("note", 1)):
            self.assertIs(paper == EqualsAll(), False)


class ClassesBelow(unittest.TestCase):
    def test_by_place_and_by_name(self):
        self.assertEqual(Between((0, 1), [1, 1]), Between(least=[0, 1], greatest=(1, 1)))
        self.assertEqual(Between((0, 1), [1, 1]), Between(greatest=(1, 1), least=[0, 1]))
        self.assertEqual(Clash(3, [2]), Clash(other=(2,), one=3))

    def test_parts_stand_in_their_order_in_attributes_too(self):
        paper = Between(greatest=[[1], 1], least=[0, [1]])
        self.assertEqual((paper.word, paper.parts), ("between", ((0, (1,)), ((1,), 1))))
        self.assertEqual((paper.least, paper.greatest), ((0, (1,)), ((1,), 1)))
        denial = Clash(other=2, one=3)
        self.assertEqual((denial.word, denial.parts, denial.one, denial.other), ("clash", (3, 2), 3, 2))

    def test_any_values_are_taken(self):
        for value in (None, True, -1, "text", (), 10 ** 99, b"x"):
            self.assertIs(Between(value, 0).least, value)
            self.assertIs(Clash(0, value).other, value)

    def test_what_they_are(self):
        self.assertIsInstance(Denial("note"), Paper)
        self.assertNotIsInstance(Paper("note"), Denial)
        self.assertNotIsInstance(Between(1, 2), Denial)
        self.assertIsInstance(Clash(1, 2), Denial)

    def test_each_is_defined_in_this_file_with_its_own_methods(self):
        for defined in (fixed, Paper, Denial):
            self.assertEqual(defined.__module__, "holegates.papers")
        for made in (Paper, Denial):
            self.assertIn("__init__", vars(made))
            self.assertIn("__eq__", vars(made))
