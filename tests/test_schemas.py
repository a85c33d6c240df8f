"""body_of, with_body and least_depths: points 1, 6 and 7."""

import copy
import unittest

from schemabridge.schemas import body_of, is_valid, least_depths, with_body
from tests.building import CHOICE, NUMBER, TEXT, may_have, needs, record, schema, union

NOTES = ("note", (
    ("note", record(needs(TEXT), may_have("notes", 2), retired=(3,))),
    ("notes", ("list", "note", 0, 9)),
    ("topic", union((1, TEXT), (2, "note")))))


class Bodies(unittest.TestCase):
    def test_body_of_each_name(self):
        for name, body in NOTES[1]:
            self.assertEqual(body_of(NOTES, name), body)

    def test_body_of_the_only_name(self):
        self.assertEqual(body_of(schema(a=("list", NUMBER, 0, 1)), "a"), ("list", NUMBER, 0, 1))

    def test_with_body_of_each_name(self):
        body = ("list", CHOICE, 1, 2)
        for place, (name, _) in enumerate(NOTES[1]):
            changed = with_body(NOTES, name, body)
            self.assertEqual(changed[0], NOTES[0])
            self.assertEqual(len(changed[1]), len(NOTES[1]))
            self.assertEqual(changed[1][place], (name, body))
            for other in range(len(NOTES[1])):
                if other != place:
                    self.assertEqual(changed[1][other], NOTES[1][other])

    def test_with_body_gives_tuples(self):
        changed = with_body(NOTES, "notes", ("list", CHOICE, 1, 2))
        self.assertIsInstance(changed, tuple)
        self.assertIsInstance(changed[1], tuple)
        self.assertTrue(all(isinstance(definition, tuple) for definition in changed[1]))

    def test_with_the_same_body(self):
        for name, body in NOTES[1]:
            self.assertEqual(with_body(NOTES, name, body), NOTES)

    def test_with_body_keeps_the_root_that_is_not_the_first_name(self):
        notes = ("topic", NOTES[1])
        self.assertEqual(with_body(notes, "note", record())[0], "topic")
        self.assertEqual(with_body(notes, "topic", record())[0], "topic")

    def test_with_body_does_not_check_its_result(self):
        body = ("list", "strange", 7, 3)
        changed = with_body(NOTES, "note", body)
        self.assertEqual(body_of(changed, "note"), body)
        self.assertIs(is_valid(changed), False)

    def test_the_schema_stays_as_it_was(self):
        before = copy.deepcopy(NOTES)
        with_body(NOTES, "note", record())
        self.assertEqual(NOTES, before)
        body_of(NOTES, "note")
        least_depths(NOTES)
        is_valid(NOTES)
        self.assertEqual(NOTES, before)


class LeastDepths(unittest.TestCase):
    def assert_depths(self, found, **depths):
        self.assertEqual(least_depths(found), depths)

    def test_definitions_of_leaves_alone(self):
        self.assert_depths(
            schema(a=("list", NUMBER, 1, 9), b=record(needs(TEXT)), c=union((1, CHOICE))), a=1, b=1, c=1)

    def test_records_without_fields_that_are_needed(self):
        self.assert_depths(
            schema(a=record(), b=record(may_have("a")), c=record((1, NUMBER, "default", 3))), a=1, b=1, c=1)

    def test_records_take_the_deepest_of_the_fields_that_are_needed(self):
        found = schema(
            a=record(needs("b", 1), needs("c", 2), needs(NUMBER, 3)),
            b=record(needs("d")), c=("list", NUMBER, 0, 1), d=("list", NUMBER, 1, 1))
        self.assert_depths(found, a=3, b=2, c=1, d=1)

    def test_the_order_of_fields_makes_no_difference(self):
        found = schema(
            a=record(needs("c", 1), needs("b", 2)), b=record(needs("d")), c=record(), d=record())
        self.assert_depths(found, a=3, b=2, c=1, d=1)

    def test_default_fields_do_not_add_depth(self):
        found = schema(a=record((1, NUMBER, "default", 0), may_have("b", 2)), b=record(needs("a")))
        self.assert_depths(found, a=1, b=2)

    def test_lists_from_no_item_and_from_one_item(self):
        self.assert_depths(
            schema(a=("list", "c", 0, 9), b=("list", "c", 1, 9), c=record(), d=("list", "b", 2, 2)),
            a=1, b=2, c=1, d=3)

    def test_a_list_of_itself(self):
        self.assert_depths(schema(a=("list", "a", 0, 9)), a=1)
        self.assert_depths(schema(a=("list", "a", 1, 9)))

    def test_a_list_of_what_has_no_values(self):
        self.assert_depths(schema(a=("list", "b", 0, 9), b=record(needs("b"))), a=1)
        self.assert_depths(schema(a=("list", "b", 1, 9), b=record(needs("b"))))

    def test_a_record_that_needs_itself(self):
        self.assert_depths(schema(a=record(needs("a"))))
        self.assert_depths(schema(a=record(needs(NUMBER, 1), needs("a", 2)), b=record()), b=1)

    def test_a_record_that_may_have_itself(self):
        self.assert_depths(schema(a=record(may_have("a"))), a=1)

    def test_definitions_that_need_one_another(self):
        self.assert_depths(schema(a=record(needs("b")), b=record(needs("a"))))
        self.assert_depths(schema(a=record(needs("b")), b=("list", "c", 1, 2), c=union((1, "a"))))
        self.assert_depths(schema(a=record(needs("b")), b=record(may_have("a"))), a=2, b=1)

    def test_what_needs_a_definition_without_values(self):
        self.assert_depths(schema(a=record(needs("b")), b=record(needs("b")), c=record(may_have("b"))), c=1)

    def test_open_unions(self):
        self.assert_depths(schema(a=union(is_open=True)), a=1)
        self.assert_depths(schema(a=union((1, "a"), is_open=True)), a=1)
        self.assert_depths(schema(a=union((1, "b"), is_open=True), b=record(needs("c")), c=record()), a=1, b=2, c=1)
        self.assert_depths(schema(a=union(retired=(4,), is_open=True), b=record(needs("a"))), a=1, b=2)

    def test_other_unions_take_the_least_depth_of_their_cases(self):
        found = schema(
            a=union((1, "d"), (2, "c"), (3, "b")), b=record(needs("c")), c=record(needs("d")), d=record(needs("e")),
            e=record())
        self.assert_depths(found, a=3, b=4, c=3, d=2, e=1)

    def test_a_union_with_a_leaf_among_its_cases(self):
        self.assert_depths(schema(a=union((1, "b"), (2, NUMBER)), b=record()), a=1, b=1)

    def test_unions_of_themselves(self):
        self.assert_depths(schema(a=union((1, "a"))))
        self.assert_depths(schema(a=union((1, "a"), (2, "b")), b=record()), a=2, b=1)

    def test_a_union_with_a_case_without_values(self):
        self.assert_depths(schema(a=union((1, "b"), (2, "c")), b=record(needs("b")), c=record()), a=2, c=1)
        self.assert_depths(schema(a=union((1, "b"), (2, "a")), b=record(needs("b"))))

    def test_what_comes_later_is_not_taken_for_less_deep(self):
        # Whatever the order of the definitions is, a takes the case with the least depth.
        self.assert_depths(
            schema(a=union((1, "b"), (2, "d")), b=("list", "c", 1, 1), c=record(), d=record()), a=2, b=2, c=1, d=1)
        self.assert_depths(
            schema(a=record(), b=("list", "a", 1, 1), c=union((1, "b"), (2, "d")), d=record()), a=1, b=2, c=2, d=1)

    def test_chains(self):
        forward = schema(
            a=("list", "b", 1, 1), b=record(needs("c")), c=union((1, "d")), d=record(needs("e")), e=("list", "f", 2, 3),
            f=record(needs("g")), g=record(needs("h")), h=record(needs(NUMBER)))
        self.assert_depths(forward, a=8, b=7, c=6, d=5, e=4, f=3, g=2, h=1)
        backward = schema(
            a=record(needs(NUMBER)), b=record(needs("a")), c=record(needs("b")), d=("list", "c", 1, 1),
            e=record(needs("d")), f=union((1, "e")), g=record(needs("f")), h=("list", "g", 1, 9))
        self.assert_depths(backward, a=1, b=2, c=3, d=4, e=5, f=6, g=7, h=8)

    def test_names_that_the_root_does_not_reach(self):
        self.assert_depths(schema(a=record(), b=record(needs("a")), c=record(needs("c"))), a=1, b=2)

    def test_no_definition_has_values(self):
        found = least_depths(schema(a=record(needs("a"))))
        self.assertEqual(found, {})
        self.assertIsInstance(found, dict)

    def test_simple_values_of_any_size(self):
        found = schema(a=("list", "b", 99, 99), b=("list", "c", 99, 99), c=("list", NUMBER, 99, 99))
        self.assert_depths(found, a=3, b=2, c=1)

    def test_each_dict_is_a_new_one(self):
        first = least_depths(NOTES)
        second = least_depths(NOTES)
        self.assertIsNot(first, second)
        first.clear()
        first["strange"] = 1
        self.assertEqual(second, {"note": 1, "notes": 1, "topic": 1})
        self.assertEqual(least_depths(NOTES), {"note": 1, "notes": 1, "topic": 1})


class Interface(unittest.TestCase):
    def test_each_function_is_defined_in_its_module(self):
        for function in (body_of, with_body, least_depths, is_valid):
            self.assertEqual(function.__module__, "schemabridge.schemas")


if __name__ == "__main__":
    unittest.main()
