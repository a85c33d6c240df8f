"""decode: points 1, 10, 12 and 13."""

import itertools
import unittest
from random import Random

from schemabridge.codec import decode, encode
from schemabridge.errors import BadOctets
from schemabridge.values import is_message
from tests.building import (
    CHOICE, DEEP, FARTHEST, LISTS, NUMBER, RECORDS, TEXT, UNIONS, defaults, may_have, needs, record, schema,
    tuples_only, union)
from tests.sampling import draw_pairs

FORMLESS = [128] * 8


def list_of(part, low=0, high=3):
    return schema(a=("list", part, low, high))


class Checks(unittest.TestCase):
    def assert_decoded(self, found, octets, value):
        passed = list(octets)
        for _ in range(2):
            result = decode(found, passed)
            self.assertEqual(result, value)
            self.assertTrue(tuples_only(result))
        self.assertEqual(passed, octets)
        self.assertEqual(encode(found, value), octets)

    def assert_bad(self, found, octets, at, reason):
        passed = list(octets)
        for _ in range(2):
            with self.assertRaises(BadOctets) as caught:
                decode(found, passed)
            self.assertEqual((caught.exception.at, caught.exception.reason), (at, reason), octets)
        self.assertEqual(passed, octets)

    def assert_bad_whatever_follows(self, found, octets, at, reason):
        for more in ([], [0], [1], [128], [5, 5, 5], [255] * 9):
            self.assert_bad(found, octets + more, at, reason)


class Messages(Checks):
    def test_numbers(self):
        found = list_of(("number", -FARTHEST, FARTHEST), 0, 99)
        self.assert_decoded(found, [5, 0, 1, 2, 172, 2, 171, 2], (0, -1, 1, 150, -150))
        for number in (FARTHEST, -FARTHEST, FARTHEST - 1, 64, -65, 8191, 8192):
            self.assertEqual(decode(found, encode(found, (number,))), (number,))

    def test_texts(self):
        found = list_of(("text", 0, 40))
        self.assert_decoded(found, [3, 0, 1, 97, 2, 32, 126], ("", "a", " ~"))
        self.assert_decoded(found, [1, 40] + [120] * 40, ("x" * 40,))

    def test_each_character(self):
        found = list_of(("text", 1, 1))
        for code in range(32, 127):
            if code != 37:
                self.assert_decoded(found, [1, 1, code], (chr(code),))

    def test_choices(self):
        self.assert_decoded(list_of(("choice", (5, 99), (7,), True)), [3, 0, 5, 99], (0, 5, 99))
        self.assert_decoded(list_of(CHOICE), [2, 1, 2], (1, 2))

    def test_records(self):
        found = schema(
            a=record(needs(NUMBER, 2), may_have(TEXT, 4), defaults(NUMBER, 7, 6), may_have("b", 8)), b=record())
        self.assert_decoded(found, [10, 0, 14, 0], ((2, 5), (6, 7)))
        self.assert_decoded(found, [10, 1, 2, 97, 98, 14, 0], ((2, 5), (4, "ab"), (6, 7)))
        self.assert_decoded(found, [10, 0, 0, 1], ((2, 5), (6, 0), (8, ())))
        self.assert_decoded(found, [10, 1, 2, 97, 98, 0, 1], ((2, 5), (4, "ab"), (6, 0), (8, ())))

    def test_messages_without_octets(self):
        self.assert_decoded(schema(a=record(retired=(3,))), [], ())
        self.assert_decoded(schema(a=record(needs("b"), needs("b", 2)), b=record()), [], ((1, ()), (2, ())))

    def test_unions(self):
        found = schema(a=union((2, NUMBER), (4, "b"), retired=(1,), is_open=True), b=("list", TEXT, 0, 2))
        self.assert_decoded(found, [0], (0, None))
        self.assert_decoded(found, [2, 18], (2, 9))
        self.assert_decoded(found, [4, 1, 2, 97, 98], (4, ("ab",)))

    def test_values_in_values_in_their_order(self):
        found = schema(
            a=("list", "b", 0, 3), b=union((1, "a"), (2, NUMBER), (3, "c")), c=record(needs("b"), may_have("a", 2)))
        value = ((2, 1), (1, ((2, 2), (1, ()))), (3, ((1, (2, 3)), (2, ((2, 4),)))))
        self.assert_decoded(found, [3, 2, 2, 1, 2, 2, 4, 1, 0, 3, 2, 6, 1, 1, 2, 8], value)

    def test_up_to_80_levels(self):
        for found, deep in DEEP:
            for levels in (1, 2, 79, 80):
                self.assertEqual(decode(found, encode(found, deep(levels))), deep(levels))

    def test_what_was_encoded(self):
        for found, value in draw_pairs(150, 11):
            octets = encode(found, value)
            passed = list(octets)
            self.assertEqual(decode(found, passed), value)
            self.assertEqual(passed, octets)

    def test_a_list_that_is_changed_afterwards(self):
        octets = [2, 1, 97, 2, 98, 99]
        value = decode(list_of(("text", 0, 5)), octets)
        octets[2] = 120
        octets.clear()
        self.assertEqual(value, ("a", "bc"))

    def test_many_octets(self):
        found = schema(a=("list", "b", 0, 99), b=("list", "c", 0, 99), c=("list", NUMBER, 0, 99))
        octets = [10] + ([99] + ([99] + [18] * 99) * 99) * 10
        value = (((9,) * 99,) * 99,) * 10
        self.assertEqual(decode(found, octets), value)
        self.assertEqual(encode(found, value), octets)


class Forms(Checks):
    # Natural numbers with a fault of form stand where each kind of natural number is due.
    def assert_form(self, found, before):
        for wrong in (FORMLESS, [255] * 8, [128, 0], [255, 0], [129, 128, 0], [128] * 7 + [0]):
            self.assert_bad_whatever_follows(found, before + wrong, len(before), "form")

    def test_numbers(self):
        self.assert_form(list_of(("number", -FARTHEST, FARTHEST)), [2, 5])

    def test_numbers_of_characters(self):
        self.assert_form(list_of(TEXT), [2, 2, 97, 98])

    def test_numbers_of_items(self):
        self.assert_form(list_of(NUMBER), [])
        self.assert_form(LISTS, [2, 0])

    def test_symbols(self):
        self.assert_form(list_of(("choice", (1, 2), (), True)), [2, 1])

    def test_cases(self):
        self.assert_form(UNIONS, [3, 3])

    def test_form_comes_before_range(self):
        self.assert_form(list_of(("number", 0, 0)), [3, 0])
        self.assert_form(list_of(("text", 0, 0)), [1])
        self.assert_form(list_of(CHOICE), [1])
        self.assert_form(schema(a=union((1, NUMBER))), [])


class Ranges(Checks):
    def assert_range(self, found, octets, at):
        self.assert_bad_whatever_follows(found, octets, at, "range")

    def test_numbers(self):
        found = list_of(("number", -2, 3))
        for wrong in ([5], [8], [127], [128, 1], [255] * 7 + [127]):
            self.assert_range(found, [2, 6] + wrong, 2)
        for good in (0, 1, 2, 3, 4, 6):
            self.assert_decoded(found, [1, good], ((0, -1, 1, -2, 2, None, 3)[good],))
        farthest = list_of(("number", -FARTHEST, FARTHEST))
        for wrong in (FARTHEST + 1, -FARTHEST - 1):
            octets = encode(list_of(("number", wrong, wrong)), (wrong,))
            self.assert_range(farthest, octets, 1)

    def test_the_index_is_that_of_the_first_octet(self):
        self.assert_range(list_of(NUMBER), [2, 2, 128, 128, 1], 2)
        self.assert_range(list_of(TEXT), [2, 2, 97, 98, 172, 2], 4)
        self.assert_range(list_of(NUMBER), [172, 2], 0)
        self.assert_range(list_of(CHOICE), [2, 1, 129, 1], 2)
        self.assert_range(UNIONS, [3, 129, 1], 1)

    def test_numbers_of_characters(self):
        found = list_of(TEXT)
        for wrong in (0, 1, 6, 40, 41, 127):
            self.assert_range(found, [2, 2, 97, 98, wrong], 4)
            self.assert_range(found, [1, wrong], 1)
        for good in (2, 5):
            self.assert_decoded(found, [1, good] + [97] * good, ("a" * good,))

    def test_numbers_of_items(self):
        found = list_of(NUMBER, 2, 4)
        for wrong in (0, 1, 5, 99, 127):
            self.assert_range(found, [wrong], 0)
        for good in (2, 3, 4):
            self.assert_decoded(found, [good] + [0] * good, (0,) * good)
        self.assert_range(LISTS, [2, 0, 3], 2)

    def test_symbols(self):
        closed = list_of(("choice", (2, 5), (), False))
        for wrong in (0, 1, 3, 4, 6, 99, 127):
            self.assert_range(closed, [2, 5, wrong], 2)
        found = list_of(("choice", (2, 5), (3,), True))
        for wrong in (1, 3, 4, 6, 99, 127):
            self.assert_range(found, [2, 0, wrong], 2)

    def test_cases(self):
        closed = schema(a=union((2, NUMBER), (5, "a")))
        for wrong in (0, 1, 3, 4, 6, 99, 127):
            self.assert_range(closed, [5, wrong], 1)
            self.assert_range(closed, [wrong], 0)
        found = schema(a=union((2, NUMBER), (5, "a"), retired=(3,), is_open=True))
        for wrong in (1, 3, 4, 6, 99, 127):
            self.assert_range(found, [5, wrong], 1)

    def test_octets_of_optional_fields(self):
        found = schema(a=record(needs(NUMBER), may_have(NUMBER, 2), may_have("b", 3)), b=record())
        for wrong in (2, 3, 97, 127, 128, 129, 255):
            self.assert_range(found, [4, wrong], 1)
            self.assert_range(found, [4, 0, wrong], 2)
            self.assert_range(found, [4, 1, 4, wrong], 3)

    def test_characters(self):
        found = list_of(("text", 0, 5))
        for wrong in (0, 9, 10, 31, 37, 127, 128, 160, 255):
            self.assert_range(found, [1, 3, wrong], 2)
            self.assert_range(found, [1, 3, 97, wrong], 3)
            self.assert_range(found, [1, 3, 97, 98, wrong], 4)


class Ends(Checks):
    def test_no_octets(self):
        for found in (LISTS, UNIONS, RECORDS, list_of(NUMBER), schema(a=record(needs(TEXT)))):
            self.assert_bad(found, [], 0, "end")

    def test_each_beginning_of_a_message(self):
        for found, value in draw_pairs(80, 3):
            octets = encode(found, value)
            for many in range(min(len(octets), 60)):
                self.assert_bad(found, octets[:many], many, "end")

    def test_within_numbers(self):
        self.assert_bad(list_of(("number", 0, FARTHEST)), [1, 172], 2, "end")
        self.assert_bad(list_of(("number", 0, FARTHEST)), [1] + [128] * 7, 8, "end")
        self.assert_bad(list_of(TEXT), [1, 128], 2, "end")
        self.assert_bad(list_of(NUMBER), [128], 1, "end")
        self.assert_bad(list_of(CHOICE), [1, 255], 2, "end")
        self.assert_bad(UNIONS, [3, 255, 255], 3, "end")

    def test_end_comes_before_range_within_a_number(self):
        self.assert_bad(list_of(NUMBER), [1, 255, 255], 3, "end")
        self.assert_bad(list_of(("text", 0, 0)), [1, 255], 2, "end")
        self.assert_bad(schema(a=union((1, NUMBER))), [200], 1, "end")

    def test_within_texts(self):
        self.assert_bad(list_of(TEXT), [1, 3], 2, "end")
        self.assert_bad(list_of(TEXT), [1, 3, 97, 98], 4, "end")

    def test_where_an_optional_field_is_due(self):
        found = schema(a=record(may_have(NUMBER), may_have("a", 2)))
        self.assert_bad(found, [], 0, "end")
        self.assert_bad(found, [0], 1, "end")
        self.assert_bad(found, [1], 1, "end")
        self.assert_bad(found, [1, 4], 2, "end")
        self.assert_bad(found, [0, 1], 2, "end")


class Depths(Checks):
    def test_the_81st_level(self):
        for found, octet in ((LISTS, 1), (RECORDS, 1), (UNIONS, 3)):
            self.assert_bad_whatever_follows(found, [octet] * 80, 80, "depth")

    def test_what_would_follow_makes_no_difference(self):
        for found, octet in ((LISTS, 1), (RECORDS, 1), (UNIONS, 3)):
            self.assert_bad(found, [octet] * 80 + [0], 80, "depth")
            self.assert_bad(found, [octet] * 80 + FORMLESS, 80, "depth")
            self.assert_bad(found, [octet] * 80 + [127], 80, "depth")
            self.assert_bad(found, [octet] * 81, 80, "depth")

    def test_80_levels_are_no_fault(self):
        for found, octet in ((LISTS, 1), (RECORDS, 1), (UNIONS, 3)):
            self.assertTrue(is_message(found, decode(found, [octet] * 79 + [0])))
            self.assert_bad(found, [octet] * 79, 79, "end")

    def test_records_that_need_no_octets(self):
        found = schema(a=union((1, "a"), (2, "b"), (3, NUMBER)), b=record(needs("c")), c=record())
        self.assertTrue(is_message(found, decode(found, [1] * 77 + [2])))
        self.assert_bad_whatever_follows(found, [1] * 78 + [2], 79, "depth")
        self.assert_bad_whatever_follows(found, [1] * 79 + [2], 80, "depth")
        self.assertTrue(is_message(found, decode(found, [1] * 79 + [3, 4])))

    def test_the_place_is_counted_from_the_root(self):
        # The first item is 80 levels deep, the second one a level deeper.
        found = schema(a=("list", "b", 0, 2), b=union((1, "b"), (2, NUMBER), (3, "c")), c=record(may_have(NUMBER)))
        deepest = [1] * 78 + [2, 4]
        deep = [1] * 77 + [3, 1, 4]
        self.assertTrue(is_message(found, decode(found, [2] + deepest + deep)))
        self.assert_bad_whatever_follows(found, [2] + deep + [1] * 78 + [3], 1 + len(deep) + 79, "depth")
        self.assert_bad_whatever_follows(found, [2] + deepest + [1] * 79, 1 + len(deepest) + 79, "depth")


class Rests(Checks):
    def test_octets_behind_a_message(self):
        for found, value in draw_pairs(60, 9):
            octets = encode(found, value)
            for more in ([0], [1], [255], [37, 0], FORMLESS, [0] * 30):
                self.assert_bad(found, octets + more, len(octets), "rest")

    def test_octets_behind_a_message_without_octets(self):
        self.assert_bad(schema(a=record()), [0], 0, "rest")
        self.assert_bad(schema(a=record(needs("b")), b=record()), [5, 5], 0, "rest")


class FirstFaults(Checks):
    def test_the_example(self):
        note = ("record", ((1, ("text", 0, 5), "required", None), (2, ("number", -9, 9), "optional", None)), ())
        self.assert_bad(("note", (("note", note),)), [2, 104, 105, 2], 3, "range")

    def test_the_first_fault_from_the_left(self):
        found = schema(a=record(needs(("text", 1, 3), 1), may_have(NUMBER, 2), needs("b", 3)), b=("list", CHOICE, 1, 2))
        self.assert_decoded(found, [1, 97, 1, 4, 1, 2], ((1, "a"), (2, 2), (3, (2,))))
        faults = ([4], [1, 37], [1, 97, 2], [1, 97, 1, 20], [1, 97, 1, 4, 3], [1, 97, 1, 4, 1, 3])
        for octets in faults:
            for more in ([], [37, 2, 200, 0], [128, 0], [99, 99, 99]):
                self.assert_bad(found, octets + more, len(octets) - 1, "range")
        self.assert_bad(found, [1, 97, 1, 128, 0, 3], 3, "form")
        self.assert_bad(found, [4, 128, 0], 0, "range")
        self.assert_bad(found, [128, 0, 37], 0, "form")

    def test_a_count_is_a_fault_before_its_items(self):
        self.assert_bad(list_of(NUMBER, 2, 3), [4, 99, 99], 0, "range")
        self.assert_bad(list_of(NUMBER, 2, 3), [1, 99], 0, "range")
        self.assert_bad(list_of(NUMBER, 2, 3), [2, 99], 1, "range")

    def test_depth_before_end_and_end_before_depth(self):
        self.assert_bad(LISTS, [1] * 80, 80, "depth")
        self.assert_bad(LISTS, [1] * 79 + [128], 80, "end")
        self.assert_bad(LISTS, [1] * 79 + [3], 79, "range")


class AllOctets(Checks):
    def assert_exact(self, found, values, octets_to_try, longest):
        """Checks that decoding gives these values for their octets, and an error for all other octets."""
        messages = {tuple(encode(found, value)): value for value in values}
        self.assertEqual(len(messages), len(values))
        met = 0
        for many in range(longest + 1):
            for octets in itertools.product(octets_to_try, repeat=many):
                if octets in messages:
                    self.assertEqual(decode(found, list(octets)), messages[octets])
                    met += 1
                else:
                    with self.assertRaises(BadOctets):
                        decode(found, list(octets))
        self.assertEqual(met, len(values))

    def test_a_record(self):
        found = schema(a=record(needs(("number", -1, 1)), may_have(("text", 0, 1), 2)))
        values = [((1, number),) for number in (-1, 0, 1)]
        values += [((1, number), (2, text)) for number in (-1, 0, 1) for text in ("", "a", " ")]
        self.assert_exact(found, values, (0, 1, 2, 3, 32, 37, 97, 127, 128, 129), 5)

    def test_a_list_of_unions(self):
        found = schema(
            a=("list", "b", 0, 2), b=union((1, "c"), (2, ("choice", (3,), (2,), True)), is_open=True), c=record())
        items = ((0, None), (1, ()), (2, 0), (2, 3))
        values = [()] + [(one,) for one in items] + list(itertools.product(items, repeat=2))
        self.assert_exact(found, values, (0, 1, 2, 3, 4, 128, 130), 5)

    def test_all_octets_once(self):
        found = schema(a=record(needs(("text", 1, 1)), needs(CHOICE, 2)))
        for octets in itertools.product((0, 1, 2, 128), range(256), range(256)):
            allowed = octets[0] == 1 and 32 <= octets[1] <= 126 and octets[1] != 37 and octets[2] in (1, 2)
            if allowed:
                self.assertEqual(decode(found, list(octets)), ((1, chr(octets[1])), (2, octets[2])))
            else:
                self.assertRaises(BadOctets, decode, found, list(octets))

    def test_octets_with_a_change_in_them(self):
        random = Random(17)
        for found, value in draw_pairs(60, 21):
            octets = encode(found, value)[:80]
            for _ in range(20):
                changed = list(octets)
                place = random.randrange(len(changed) + 1)
                new = random.choice((0, 1, 2, 3, 37, 97, 127, 128, 255))
                changed[place:place + random.randrange(2)] = [new]
                self.check_changed(found, changed)

    def check_changed(self, found, octets):
        """Checks what can be told of any octets."""
        try:
            value = decode(found, octets)
        except BadOctets as error:
            at, reason = error.at, error.reason
            self.assertIn(reason, ("form", "range", "end", "depth", "rest"))
            if reason == "end":
                self.assertEqual(at, len(octets))
            else:
                self.assert_bad(found, octets + [0, 7], at, reason)
            for many in range(at):
                # What was read before the fault is not at fault.
                self.assert_ends_or_is_message(found, octets[:many])
        else:
            self.assertIs(is_message(found, value), True)
            self.assertEqual(encode(found, value), octets)

    def assert_ends_or_is_message(self, found, octets):
        try:
            decode(found, octets)
        except BadOctets as error:
            self.assertEqual((error.at, error.reason), (len(octets), "end"))
        else:
            self.fail("the octets behind a message are a fault")


if __name__ == "__main__":
    unittest.main()
