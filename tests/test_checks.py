"""The checks of single values."""

import string
import time
import unittest

from holegates.checks import are_signs, first_twice, is_integer, is_name, is_sign, is_within

HUGE = 10 ** 99
BEYOND_PRINT = 10 ** 5000
NO_INTEGERS = (
    True, False, None, "", "0", "1", "a", b"", b"1", 0.0, 1.0, 1j, [], [0], (), (1,), {}, {0: 1}, {1}, object(), int,
)


class Checked(unittest.TestCase):
    def assert_is(self, expected, found):
        # True and False themselves, not what merely counts as such.
        self.assertIs(found, expected)


class Integers(Checked):
    def test_integers_of_any_size(self):
        for value in (0, 1, -1, 2, HUGE, -HUGE, BEYOND_PRINT, -BEYOND_PRINT):
            self.assert_is(True, is_integer(value))

    def test_what_is_no_integer(self):
        for value in NO_INTEGERS:
            with self.subTest(value=value):
                self.assert_is(False, is_integer(value))


class Bounds(Checked):
    def test_bounds_met_just_so_and_missed_by_one(self):
        for least, most in ((0, 1), (-3, 5), (7, 7), (-HUGE, HUGE), (HUGE, HUGE + 1), (-9, -4)):
            with self.subTest(least=least, most=most):
                self.assert_is(True, is_within(least, least, most))
                self.assert_is(True, is_within(most, least, most))
                self.assert_is(False, is_within(least - 1, least, most))
                self.assert_is(False, is_within(most + 1, least, most))

    def test_none_is_no_bound(self):
        for value in (-BEYOND_PRINT, -1, 0, 1, BEYOND_PRINT):
            self.assert_is(True, is_within(value, None, None))
        self.assert_is(True, is_within(HUGE, 3, None))
        self.assert_is(True, is_within(3, 3, None))
        self.assert_is(False, is_within(2, 3, None))
        self.assert_is(True, is_within(-HUGE, None, 3))
        self.assert_is(True, is_within(3, None, 3))
        self.assert_is(False, is_within(4, None, 3))

    def test_zero_is_a_bound(self):
        self.assert_is(False, is_within(-1, 0, None))
        self.assert_is(False, is_within(1, None, 0))

    def test_nothing_is_within_bounds_that_cross(self):
        for value in (1, 2, 3, 4):
            self.assert_is(False, is_within(value, 3, 2))

    def test_what_is_no_integer_is_within_no_bounds(self):
        for value in NO_INTEGERS:
            for least, most in ((None, None), (0, None), (None, 1), (0, 1), (-5, 5)):
                with self.subTest(value=value, least=least, most=most):
                    self.assert_is(False, is_within(value, least, most))


class Signs(Checked):
    def test_the_two_signs(self):
        self.assert_is(True, is_sign(0))
        self.assert_is(True, is_sign(1))

    def test_other_integers_are_no_signs(self):
        for value in (-1, 2, -2, 10, HUGE, -HUGE, BEYOND_PRINT):
            self.assert_is(False, is_sign(value))

    def test_values_of_other_kinds_are_no_signs(self):
        for value in NO_INTEGERS:
            with self.subTest(value=value):
                self.assert_is(False, is_sign(value))

    def test_lists_and_tuples_of_signs(self):
        for value in ([], (), [0], (1,), [0, 1, 1], (1, 0), [1] * 20000, (0,) * 300):
            self.assert_is(True, are_signs(value))

    def test_one_item_that_is_no_sign(self):
        for item in (2, -1, HUGE) + NO_INTEGERS:
            for value in ([item], (item,), [item, 0], [0, item], (1, 0, item), (1, item, 1)):
                with self.subTest(value=value):
                    self.assert_is(False, are_signs(value))

    def test_what_is_no_list_or_tuple(self):
        for value in (0, 1, True, False, None, "", "01", b"", b"01", {}, {0: 1}, {0, 1}, range(2), 1.0, object()):
            with self.subTest(value=value):
                self.assert_is(False, are_signs(value))
        self.assert_is(False, are_signs(frozenset([0, 1])))
        self.assert_is(False, are_signs(iter([0, 1])))


class Names(Checked):
    def assert_none(self, values):
        for value in values:
            with self.subTest(value=value):
                self.assert_is(False, is_name(value))

    def test_names(self):
        for value in ("a", "z", "h", "a7", "out", "a0", "z9", "x1y2", "a00", "sumofall"):
            self.assert_is(True, is_name(value))

    def test_each_letter_and_each_digit(self):
        for letter in string.ascii_lowercase:
            self.assert_is(True, is_name(letter))
            self.assert_is(True, is_name("b" + letter))
        for digit in string.digits:
            self.assert_is(True, is_name("b" + digit))
            self.assert_is(True, is_name("b" + digit + "c"))

    def test_twelve_signs_and_thirteen(self):
        for value in ("a" * 12, "a12345678901", "abcdefghijkl"):
            self.assert_is(True, is_name(value))
        self.assert_none(("a" * 13, "a123456789012", "abcdefghijklm", "a" * 20000))

    def test_the_empty_string(self):
        self.assert_none(("",))

    def test_a_digit_first(self):
        self.assert_none(["7", "7a"] + [digit + "a" for digit in string.digits])

    def test_great_letters(self):
        for letter in string.ascii_uppercase:
            self.assert_none((letter, letter + "a", "a" + letter, "a" + letter + "a"))

    def test_every_other_sign_of_ascii(self):
        for code in range(128):
            if chr(code) not in string.ascii_lowercase + string.digits:
                self.assert_none((chr(code), chr(code) + "a", "a" + chr(code), "a" + chr(code) + "a"))

    def test_letters_and_digits_from_elsewhere(self):
        # Sharp s, e with an accent, alpha, a wide a, a modifier, superscript two, an Arabic three, a wide one.
        for sign in "\u00df\u00e9\u03b1\uff41\u02b0\u00b2\u0663\uff11":
            self.assert_none((sign, sign + "a", "a" + sign, "a" + sign + "a"))

    def test_a_line_feed_behind_a_name(self):
        self.assert_none(("a\n", "out\n", "a7\n", "\na", "a\r", "a\n\n", "a" * 11 + "\n", "a" * 12 + "\n"))

    def test_values_of_other_kinds(self):
        self.assert_none((0, 1, True, False, None, b"a", ["a"], ("a",), {"a": 1}, {"a"}, [], (), 1.5, object(), str))


class FirstTwice(unittest.TestCase):
    def test_nothing_twice(self):
        for values in ([], (), [1], ["a"], [(1, 2)], [1, 2, 3], ["a", "b"], [1, "1", (1,), ("1",), ((1,),)]):
            with self.subTest(values=values):
                self.assertIsNone(first_twice(values))

    def test_integers(self):
        self.assertEqual(first_twice([5, 5]), 5)
        self.assertEqual(first_twice((0, 3, 0)), 0)
        self.assertEqual(first_twice([-1, 1, HUGE, -HUGE, HUGE]), HUGE)
        self.assertEqual(first_twice([BEYOND_PRINT, 1, BEYOND_PRINT + 1, BEYOND_PRINT]), BEYOND_PRINT)

    def test_minus_one_and_minus_two(self):
        self.assertIsNone(first_twice([-1, -2, (-1,), (-2,)]))

    def test_strings(self):
        self.assertEqual(first_twice(["a", "b", "a"]), "a")
        self.assertEqual(first_twice(["", "a", ""]), "")
        self.assertIsNone(first_twice(["a", "A", "a ", "ab"]))

    def test_tuples(self):
        self.assertEqual(first_twice([(1, "a"), (1, "b"), (1, "a")]), (1, "a"))
        self.assertEqual(first_twice([(), (1,), ()]), ())
        self.assertIsNone(first_twice([(1, 2), (2, 1), (1,), (1, 2, 0)]))
        self.assertIsNone(first_twice([("ab",), ("a", "b"), "ab"]))

    def test_the_first_is_the_one_whose_second_stands_first(self):
        self.assertEqual(first_twice([2, 1, 2, 1]), 2)
        self.assertEqual(first_twice([2, 1, 1, 2]), 1)
        self.assertEqual(first_twice(["a", (1, 2), "b", (1, 2), "a"]), (1, 2))
        self.assertEqual(first_twice([3, 3, 3, 4, 4]), 3)

    def test_tuples_in_tuples(self):
        self.assertIsNone(first_twice([((1, 2), 3), (1, (2, 3)), (1, 2, 3), ((1, 2, 3),), ((), 1), (1, ())]))
        self.assertEqual(first_twice([(1, (2, ())), (1, (2, ()))]), (1, (2, ())))

    def test_tuples_nested_as_deep_as_may_be_passed(self):
        deep = other = 1
        for _ in range(29):
            deep, other = (deep, "a"), (other, "a")
        self.assertEqual(first_twice([deep, (deep,), other]), deep)
        self.assertIsNone(first_twice([deep, (deep, "b"), ("a", deep)]))

    def test_lists_stand_for_tuples(self):
        found = first_twice([[1, [2, 3]], 4, (1, (2, 3))])
        self.assertEqual(found, (1, (2, 3)))
        found = first_twice([(1, "a"), [1, "a"]])
        self.assertEqual(found, (1, "a"))

    def test_what_is_passed_is_not_changed(self):
        values = [[1, [2]], "a", [1, [2]]]
        first_twice(values)
        self.assertEqual(values, [[1, [2]], "a", [1, [2]]])

    def test_many_values_take_a_short_time(self):
        # Comparing each with all ahead would take some two hundred million steps.
        begin = time.process_time()
        self.assertIsNone(first_twice(list(range(19000))))
        self.assertEqual(first_twice([(k, k + 1) for k in range(6000)] + [(7, 8)]), (7, 8))
        self.assertLess(time.process_time() - begin, 2)


class Places(unittest.TestCase):
    def test_each_check_is_defined_in_this_file(self):
        for check in (is_integer, is_within, is_sign, are_signs, is_name, first_twice):
            self.assertEqual(check.__module__, "holegates.checks")

    def test_arguments_may_be_passed_by_name(self):
        self.assertTrue(is_integer(value=1))
        self.assertTrue(is_within(most=3, least=None, value=3))
        self.assertTrue(is_sign(value=1))
        self.assertTrue(are_signs(value=[1]))
        self.assertTrue(is_name(value="a"))
        self.assertEqual(first_twice(values=[1, 1]), 1)
