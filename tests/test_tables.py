"""Tables: what they are, what can be asked of them, and the facts about them."""

import itertools
import time

from holegates import tables as module
from holegates.errors import BadNumber, BadTable, BadText, Misfit, NoPlace, Twice
from holegates.tables import (
    both, contrary, either, follows, for_all, for_some, hangs_on, in_order, is_table, places_of, put_in, read_table,
    row_of, setting_of, sign_at, table_text, unlike, with_sign,
)
from tests.support import (
    HUGE, Told, in_twos, settings, some_tables, tables, wrong_numbers, wrong_tables,
)

ODD = (0, 1, 1, 0)
NO_PLACE = (1,)
GREATEST = some_tables(8, 2, 1)
SMALL = [table for places in (0, 1, 2) for table in tables(places)]
SAMPLE = SMALL + tables(3)[::5] + [table for places in (4, 6, 8) for table in some_tables(places, 4, places)]


def places_in(table):
    return [2 ** places for places in range(9)].index(len(table))


def put_back(table, place):
    """The struck place put back, and hung on by nothing."""
    places = places_in(table) + 1
    return tuple(table[in_twos(setting[:place] + setting[place + 1:])] for setting in settings(places))


def wrong_settings():
    return [
        True, None, 0, 1, "", "01", b"01", {0: 1}, {0, 1}, range(2), object(), [0] * 9, (1,) * 9, [True], [0, False],
        [2],
        [-1, 0], (HUGE,), [None], ["0"], [0, "1"], [[0], 1], ([0, 1],), [1.0],
    ]


class WhatTablesAre(Told):
    def test_each_function_is_defined_in_this_file(self):
        for name in (
            "is_table", "places_of", "row_of", "setting_of", "sign_at", "contrary", "both", "either", "unlike",
            "follows",
            "with_sign", "for_some", "for_all", "hangs_on", "in_order", "put_in", "table_text", "read_table",
        ):
            self.assertEqual(getattr(module, name).__module__, "holegates.tables")

    def test_tables_of_none_to_eight_places(self):
        for places in range(9):
            for table in ([0] * 2 ** places, (1,) * 2 ** places, ([0, 1] * 2 ** places)[:2 ** places]):
                self.assertIs(is_table(table), True)
                self.assertEqual(places_of(table), places)

    def test_other_lengths(self):
        sizes = [2 ** places for places in range(9)]
        for length in [*range(300), 511, 512, 513, 1024, 4096, 19000]:
            self.assertIs(is_table([1] * length), length in sizes)

    def test_what_is_no_table(self):
        for value in wrong_tables():
            with self.subTest(value=value):
                self.assertIs(is_table(value), False)
        deep = 1
        for _ in range(30):
            deep = [deep]
        self.assertIs(is_table(deep), False)

    def test_by_name(self):
        self.assertIs(is_table(value=[1]), True)
        self.assertEqual(places_of(table=[1, 0]), 1)
        self.assertEqual(row_of(setting=[1, 0]), 2)
        self.assertEqual(setting_of(row=1, places=2), (0, 1))
        self.assertEqual(sign_at(setting=[1], table=[1, 0]), 0)
        self.assertEqual(contrary(table=[1]), (0,))
        for call, expected in ((both, (0,)), (either, (1,)), (unlike, (1,)), (follows, True)):
            self.assert_same(call(other=[1], one=[0]), expected)
        self.assertEqual(with_sign(sign=1, place=0, table=ODD), (1, 0))
        self.assertEqual(for_some(place=0, table=[0, 1, 0, 1]), (0, 1))
        self.assertEqual(for_all(place=0, table=[0, 1, 1, 1]), (0, 1))
        self.assertEqual(hangs_on(table=ODD), (0, 1))
        self.assertEqual(in_order(order=[1, 0], table=[0, 0, 1, 0]), (0, 1, 0, 0))
        self.assertEqual(put_in(tables=[[1, 0]], table=[0, 1]), (1, 0))
        self.assertEqual(table_text(table=ODD), "0110")
        self.assertEqual(read_table(text="0110"), ODD)


class Settings(Told):
    def test_numbers_of_all_settings(self):
        for places in range(9):
            for row, setting in enumerate(itertools.product((0, 1), repeat=places)):
                self.assert_same(row_of(setting), row)
                self.assert_same(row_of(list(setting)), row)
                self.assert_same(setting_of(places, row), setting)

    def test_the_first_place_counts_most(self):
        self.assertEqual(row_of([1, 0, 1]), 5)
        self.assertEqual(row_of([1, 0, 0, 0, 0, 0, 0, 0]), 128)
        self.assertEqual(setting_of(3, 4), (1, 0, 0))
        self.assertEqual(setting_of(0, 0), ())

    def test_what_is_no_setting(self):
        for value in wrong_settings():
            with self.subTest(value=value):
                self.assert_raises(BadNumber("setting"), row_of, value)
                self.assert_raises(BadNumber("setting"), sign_at, ODD, value)

    def test_places_and_rows_beyond_the_bounds(self):
        for value in wrong_numbers(0, 8):
            with self.subTest(value=value):
                self.assert_raises(BadNumber("places"), setting_of, value, 0)
                self.assert_raises(BadNumber("places"), setting_of, value, None)
        for places in range(9):
            for value in wrong_numbers(0, 2 ** places - 1):
                with self.subTest(places=places, value=value):
                    self.assert_raises(BadNumber("row"), setting_of, places, value)

    def test_signs_at_settings(self):
        for table in SAMPLE:
            for row, setting in enumerate(settings(places_in(table))):
                self.assert_same(sign_at(table, setting), table[row])
                self.assert_same(sign_at(list(table), list(setting)), table[row])

    def test_a_setting_of_another_length(self):
        for table in SAMPLE:
            for places in set(range(9)) - {places_in(table)}:
                self.assert_raises(Misfit("places"), sign_at, table, (0,) * places)

    def test_errors_of_sign_at_in_their_order(self):
        self.assert_raises(BadTable("table"), sign_at, [0, 1, 0], [2])
        self.assert_raises(BadNumber("setting"), sign_at, ODD, [2])
        self.assert_raises(BadNumber("setting"), sign_at, ODD, [0] * 9)


class WrongTables(Told):
    def test_what_is_no_table_where_one_is_wanted(self):
        for value in wrong_tables():
            with self.subTest(value=value):
                for call in (places_of, contrary, hangs_on, table_text):
                    self.assert_raises(BadTable("table"), call, value)
                for call in (for_some, for_all, in_order, put_in, sign_at):
                    self.assert_raises(BadTable("table"), call, value, None)
                self.assert_raises(BadTable("table"), with_sign, value, None, None)
                for call in (both, either, unlike, follows):
                    self.assert_raises(BadTable("one"), call, value, ODD)
                    self.assert_raises(BadTable("one"), call, value, value)
                    self.assert_raises(BadTable("other"), call, (1,), value)

    def test_tables_of_unlike_numbers_of_places(self):
        for call in (both, either, unlike, follows):
            for one in range(9):
                for other in set(range(9)) - {one}:
                    self.assert_raises(Misfit("places"), call, (0,) * 2 ** one, [1] * 2 ** other)


class SignBySign(Told):
    def test_contrary(self):
        for table in SAMPLE:
            turned = contrary(table)
            self.assert_same(turned, tuple({0: 1, 1: 0}[sign] for sign in table))
            self.assert_same(contrary(list(turned)), table)

    def test_two_tables(self):
        pairs = [pair for places in (0, 1, 2) for pair in itertools.product(tables(places), repeat=2)]
        for one, other in [*pairs, GREATEST]:
            signs = list(zip(one, other))
            self.assert_same(both(one, other), tuple(int(pair == (1, 1)) for pair in signs))
            self.assert_same(either(list(one), other), tuple(int(1 in pair) for pair in signs))
            self.assert_same(unlike(one, list(other)), tuple(int(sorted(pair) == [0, 1]) for pair in signs))
            self.assert_same(follows(list(one), list(other)), (1, 0) not in signs)

    def test_follows_in_words(self):
        self.assertIs(follows((0, 0), (0, 1)), True)
        self.assertIs(follows((0, 1), (0, 0)), False)
        self.assertIs(follows([0], [0]), True)


class Striking(Told):
    def test_with_a_sign(self):
        for table in SAMPLE:
            places = places_in(table)
            for place, sign in itertools.product(range(places), (0, 1)):
                expected = tuple(
                    table[in_twos(left[:place] + (sign,) + left[place:])] for left in settings(places - 1)
                )
                self.assert_same(with_sign(table, place, sign), expected)
                self.assert_same(with_sign(list(table), place, sign), expected)

    def test_for_some_and_for_all(self):
        for table in SAMPLE:
            for place in range(places_in(table)):
                halves = list(zip(with_sign(table, place, 0), with_sign(table, place, 1)))
                self.assert_same(for_some(table, place), tuple(int(1 in pair) for pair in halves))
                self.assert_same(for_all(list(table), place), tuple(int(0 not in pair) for pair in halves))

    def test_hangs_on(self):
        for table in SAMPLE:
            found = []
            for place, setting in itertools.product(range(places_in(table)), settings(places_in(table))):
                turned = setting[:place] + (1 - setting[place],) + setting[place + 1:]
                if table[in_twos(setting)] != table[in_twos(turned)] and place not in found:
                    found.append(place)
            self.assert_same(hangs_on(table), tuple(found))
            self.assert_same(hangs_on(list(table)), tuple(found))

    def test_hangs_on_nothing(self):
        for places in range(9):
            self.assertEqual(hangs_on([1] * 2 ** places), ())
        self.assertEqual(hangs_on((0, 1)), (0,))

    def test_what_is_no_place(self):
        for table in ((1,), (0, 1), ODD, GREATEST[0]):
            for value in wrong_numbers(0, places_in(table) - 1):
                with self.subTest(value=value):
                    self.assert_raises(NoPlace(value), for_some, table, value)
                    self.assert_raises(NoPlace(value), for_all, table, value)
                    self.assert_raises(NoPlace(value), with_sign, table, value, 0)
                    self.assert_raises(NoPlace(value), with_sign, table, value, None)

    def test_what_is_no_sign(self):
        for value in wrong_numbers(0, 1):
            with self.subTest(value=value):
                self.assert_raises(BadNumber("sign"), with_sign, ODD, 1, value)


class FactsOfStriking(Told):
    def test_what_is_left_lies_around_the_table(self):
        for table in SAMPLE:
            for place in range(places_in(table)):
                self.assertTrue(follows(put_back(for_all(table, place), place), table))
                self.assertTrue(follows(table, put_back(for_some(table, place), place)))
                self.assertNotIn(place, hangs_on(put_back(for_some(table, place), place)))

    def test_places_struck_in_any_order(self):
        for table in tables(3)[::3] + some_tables(5, 3, 5):
            for one, other in itertools.combinations(range(places_in(table)), 2):
                for strike in (for_some, for_all):
                    # With one struck, those behind it move up.
                    self.assertEqual(strike(strike(table, other), one), strike(strike(table, one), other - 1))

    def test_the_least_table_that_hangs_on_told_places(self):
        by_places = {
            told: [table for table in tables(3) if set(hangs_on(table)) <= set(told)]
            for many in range(4) for told in itertools.combinations(range(3), many)
        }
        for table in tables(3)[::11]:
            for told, candidates in by_places.items():
                least = table
                for place in set(range(3)) - set(told):
                    least = put_back(for_some(least, place), place)
                self.assertIn(least, candidates)
                self.assertTrue(follows(table, least))
                self.assertTrue(all(follows(least, found) for found in candidates if follows(table, found)))


class OtherOrders(Told):
    def test_all_orders(self):
        for table in SMALL + tables(3)[::9] + some_tables(4, 3, 9):
            places = places_in(table)
            for order in itertools.permutations(range(places)):
                found = in_order(list(table), list(order))
                self.assert_same(in_order(table, order), found)
                for old in settings(places):
                    self.assertEqual(sign_at(found, [old[place] for place in order]), sign_at(table, old))

    def test_back_again(self):
        order = (3, 7, 0, 1, 6, 2, 5, 4)
        back = [order.index(place) for place in range(8)]
        for table in GREATEST:
            self.assertEqual(in_order(in_order(table, order), back), table)

    def test_what_is_no_list(self):
        for value in (None, True, 0, 1, "", "01", "10", b"01", {0: 1, 1: 0}, {0, 1}, range(2), object()):
            with self.subTest(value=value):
                self.assert_raises(NoPlace(value), in_order, ODD, value)
                self.assert_raises(NoPlace(value), in_order, NO_PLACE, value)

    def test_the_first_that_is_no_place(self):
        for value in wrong_numbers(0, 1):
            with self.subTest(value=value):
                for order in ([value], [0, value], [0, 0, value, 5], (1, 0, value), [value, 2, value]):
                    self.assert_raises(NoPlace(value), in_order, ODD, order)
        self.assert_raises(NoPlace(0), in_order, NO_PLACE, [0])

    def test_a_place_twice(self):
        self.assert_raises(Twice(0), in_order, ODD, [0, 0])
        self.assert_raises(Twice(1), in_order, ODD, (0, 1, 1, 0))
        self.assert_raises(Twice(0), in_order, ODD, [0, 1, 0, 1])
        self.assert_raises(Twice(2), in_order, GREATEST[0], [0, 2, 2])
        self.assert_raises(Twice(0), in_order, [0, 1], [0] * 500)

    def test_a_place_that_lacks(self):
        for order in ([], [0], [1], ()):
            self.assert_raises(Misfit("places"), in_order, ODD, order)
        self.assert_raises(Misfit("places"), in_order, GREATEST[0], list(range(7)))
        self.assert_same(in_order(NO_PLACE, []), (1,))
        self.assert_same(in_order([0], ()), (0,))

    def test_the_table_is_looked_at_first(self):
        self.assert_raises(BadTable("table"), in_order, [0, 1, 1], [0, 0])


class PuttingIn(Told):
    def test_sign_by_sign(self):
        for table in tables(2)[::3] + tables(1) + tables(3)[::37]:
            for places in range(4):
                for at in range(6):
                    inner = some_tables(places, places_in(table), at)
                    found = put_in(list(table), [list(one) for one in inner])
                    self.assert_same(put_in(table, tuple(inner)), found)
                    self.assertEqual(places_of(found), places)
                    for setting in settings(places):
                        signs = [sign_at(one, setting) for one in inner]
                        self.assertEqual(sign_at(found, setting), sign_at(table, signs))

    def test_no_place_takes_no_table(self):
        self.assert_same(put_in((1,), []), (1,))
        self.assert_same(put_in([0], ()), (0,))
        self.assert_raises(Misfit("places"), put_in, (1,), [(0, 1)])

    def test_places_put_in_for_themselves(self):
        for table in SAMPLE:
            places = places_in(table)
            if places:
                own = [tuple(setting[place] for setting in settings(places)) for place in range(places)]
                self.assertEqual(put_in(table, own), table)

    def test_an_order_is_a_putting_in(self):
        for table in tables(3)[::7]:
            for order in itertools.permutations(range(3)):
                at = [order.index(place) for place in range(3)]
                columns = [tuple(setting[place] for setting in settings(3)) for place in at]
                self.assertEqual(in_order(table, order), put_in(table, columns))

    def test_tables_with_no_place_put_in(self):
        self.assert_same(put_in(ODD, [(1,), [0]]), (1,))

    def test_what_is_no_list_of_tables(self):
        for value in (None, True, 0, "", "01", {}, {0: [0, 1]}, range(0), object(), [0], (1, 0), ODD):
            with self.subTest(value=value):
                self.assert_raises(BadTable("tables"), put_in, [0, 1], value)
                self.assert_raises(BadTable("tables"), put_in, (1,), value)
        for value in wrong_tables():
            with self.subTest(value=value):
                for passed in ([value], [value, (0, 1)], ((0, 1), value), [(0, 1), (0, 1), value], [(1,), value]):
                    self.assert_raises(BadTable("tables"), put_in, ODD, passed)

    def test_tables_that_do_not_fit(self):
        for passed in ([], [(0, 1)], [(0, 1)] * 3, [(0, 1), (1,)], [(1,), (0, 1)], [(0, 1), ODD]):
            self.assert_raises(Misfit("places"), put_in, ODD, passed)
        self.assert_raises(Misfit("places"), put_in, GREATEST[0], [ODD] * 7 + [(0, 1)])
        self.assert_raises(BadTable("table"), put_in, [1, 0, 1], [None])


class Texts(Told):
    def test_there_and_back(self):
        for table in SAMPLE:
            text = table_text(table)
            self.assertEqual(text, repr(table).replace(", ", "").strip("(,)"))
            self.assertEqual(table_text(list(table)), text)
            self.assert_same(read_table(text), table)

    def test_what_is_no_string(self):
        for value in (None, True, 0, 1, 10, b"01", ["0"], ("0",), [0, 1], {"0": 1}, object(), str):
            with self.subTest(value=value):
                self.assert_raises(BadText(0, 0), read_table, value)

    def test_an_item_that_is_no_table(self):
        for text in (
            "", " ", "011", "0" * 3, "1" * 255, "1" * 257, "0" * 512, "0" * 20000, "2", "02", "0110\n", "\n01", "0\t",
            "a",
            "0a", "x", "0x1", "0b1", "?", "-1", "+1", "1_0", "0,1", "(0, 1)", "\u0661", "0\u0661", "\uff10\uff11",
            "\u00b2", "011 01", " 01",
            "2 2", "  ",
        ):
            with self.subTest(text=text):
                self.assert_raises(BadText(0, 0), read_table, text)

    def test_an_item_too_many(self):
        for text in ("01 ", "01 01", "0 1", "1  ", "0110 a", "01 011 2", "1 " + "0" * 19000):
            with self.subTest(text=text):
                self.assert_raises(BadText(0, 1), read_table, text)


class NothingIsChanged(Told):
    def test_what_is_passed_stays(self):
        table, other, order, inner = [0, 1, 1, 0], [0, 0, 1, 1], [1, 0], [[0, 1], [1, 1]]
        for call in (contrary, hangs_on, places_of, table_text):
            call(table)
        for call in (both, either, unlike, follows):
            call(table, other)
        for call in (for_some, for_all):
            call(table, 1)
        with_sign(table, 0, 1)
        in_order(table, order)
        put_in(table, inner)
        row_of(order)
        sign_at(table, order)
        for call in (in_order, put_in):
            self.assertRaises(ValueError, call, table, [[7]])
        self.assert_same([table, other, order, inner], [[0, 1, 1, 0], [0, 0, 1, 1], [1, 0], [[0, 1], [1, 1]]])

    def test_a_table_that_is_returned_is_none_that_was_passed(self):
        table = [1]
        found = put_in(table, [])
        table[0] = 0
        self.assert_same(found, (1,))

    def test_an_error_keeps_a_list_as_it_was_passed(self):
        order, place = [0, [1, [0]]], [0]
        self.assert_raises(NoPlace(order[1]), in_order, ODD, order)
        self.assert_raises(NoPlace(place), for_all, ODD, place)


class Bits(Told):
    """Signs in all settings told as the bits of one integer."""

    def told(self, signs):
        return sum(sign << number for number, sign in enumerate(signs))

    def test_settings_and_places(self):
        for places in range(7):
            self.assertEqual(module.all_bits(places), self.told([1] * 2 ** places))
            for number, setting in enumerate(settings(places)):
                self.assert_same(module.setting_told(places, number), setting)
            for place in range(places):
                expected = self.told([setting[place] for setting in settings(places)])
                self.assert_same(module.bits_of_place(places, place), expected)

    def test_picked_as_a_table_into_which_others_are_put(self):
        for places in range(5):
            inner = some_tables(3, places, places)
            for table in some_tables(places, 5, 9):
                worths = [module.all_bits(3) if sign else 0 for sign in table]
                found = module.bits_picked(worths, [self.told(signs) for signs in inner])
                expected = put_in(table, inner) if places else table * 8
                self.assert_same(found, self.told(expected))
                self.assert_same(module.count_bits(found), sum(expected))


class ShortTimes(Told):
    def test_the_greatest_tables(self):
        begin = time.process_time()
        one, other = GREATEST
        for _ in range(5):
            for place in range(8):
                for_some(one, place), for_all(one, place), with_sign(one, place, 1)
            both(one, other), either(one, other), unlike(one, other), follows(one, other), contrary(one)
            hangs_on(one)
            in_order(one, [7, 6, 5, 4, 3, 2, 1, 0])
            put_in(one, [other] * 8)
            read_table(table_text(one))
        self.assertLess(time.process_time() - begin, 2)

    def test_long_values_that_are_wrong(self):
        begin = time.process_time()
        self.assertIs(is_table([1] * 19999), False)
        self.assert_raises(BadText(0, 0), read_table, "1" * 20000)
        self.assert_raises(Twice(0), in_order, ODD, [0, 1] * 9000)
        self.assert_raises(Misfit("places"), put_in, ODD, [(0, 1)] * 6000)
        self.assertLess(time.process_time() - begin, 2)
