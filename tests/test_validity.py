"""is_valid: points 2, 3, 4, 8 and 9."""

import unittest

from schemabridge.schemas import is_valid
from tests.building import CHOICE, NUMBER, TEXT, may_have, needs, numbers, record, schema, union

FARTHEST = 10 ** 15

WRONG_LEAVES = (
    ("number", 1, 0), ("number", -FARTHEST - 1, 0), ("number", 0, FARTHEST + 1),
    ("text", 3, 2), ("text", -1, 2), ("text", 2, 41),
    ("choice", (), (), False), ("choice", (1,), (2,), False), ("choice", (2, 1), (), False),
    ("choice", (1, 1), (), False), ("choice", (0, 1), (), False), ("choice", (1, 100), (), False),
    ("choice", (1,), (1,), True), ("choice", (), (2, 1), True), ("choice", (), (2, 2), True),
    ("choice", (), (0,), True), ("choice", (), (100,), True))


class Checks(unittest.TestCase):
    def assert_valid(self, found):
        self.assertIs(is_valid(found), True, found)

    def assert_invalid(self, found):
        self.assertIs(is_valid(found), False, found)

    def assert_body(self, body, *, holds):
        """Checks a body as the root's, and as that of a definition that the root does not reach."""
        for found in (("a", (("a", body), ("b", record()))), ("a", (("a", record()), ("b", body)))):
            self.assertIs(is_valid(found), holds, found)


class Definitions(Checks):
    def test_an_ordinary_schema(self):
        self.assert_valid(("note", (
            ("note", record(needs(TEXT), may_have("notes", 2), (4, NUMBER, "default", 7), retired=(3, 5))),
            ("notes", ("list", "note", 0, 9)),
            ("topic", union((1, TEXT), (2, "note"), retired=(3,), is_open=True)))))

    def test_no_definitions(self):
        self.assert_invalid(("a", ()))
        self.assert_invalid(("", ()))

    def test_the_number_of_definitions(self):
        for many in range(1, 20):
            names = "abcdefghijklmnopqrst"[:many]
            found = ("a", tuple((name, numbers(1)) for name in names))
            self.assertIs(is_valid(found), many <= 8, many)

    def test_a_root_that_is_no_name(self):
        definitions = (("a", numbers(0)), ("c", numbers(0)))
        self.assert_valid(("a", definitions))
        self.assert_valid(("c", definitions))
        for root in ("b", "", "ac", "aa", "A", "d"):
            self.assert_invalid((root, definitions))

    def test_names_in_the_wrong_order(self):
        self.assert_valid(("a", (("a", numbers(0)), ("aa", numbers(0)), ("b", numbers(0)))))
        self.assert_invalid(("a", (("b", numbers(0)), ("a", numbers(0)))))
        self.assert_invalid(("a", (("a", numbers(0)), ("c", numbers(0)), ("b", numbers(0)))))
        self.assert_invalid(("a", (("aa", numbers(0)), ("a", numbers(0)))))
        self.assert_invalid(("b", (("b", numbers(0)), ("a", numbers(0)), ("c", numbers(0)))))

    def test_a_name_that_occurs_twice(self):
        self.assert_invalid(("a", (("a", numbers(0)), ("a", numbers(0)))))
        self.assert_invalid(("a", (("a", numbers(0)), ("b", numbers(0)), ("b", numbers(1)))))

    def test_lengths_of_names(self):
        for length in (1, 2, 11, 12):
            self.assert_valid(("x" * length, (("x" * length, numbers(0)),)))
        for length in (0, 13, 14, 1000):
            self.assert_invalid(("x" * length, (("x" * length, numbers(0)),)))

    def test_letters_of_names(self):
        for name in ("a", "z", "az", "abcdefghijkl", "mnopqrstuvwx", "yz", "number", "list", "required"):
            self.assert_valid((name, ((name, numbers(0)),)))
        for wrong in ("A", "Z", "0", "9", "_", "-", " ", ".", "`", "{", "\t", "\n", "~"):
            for name in (wrong, wrong + "a", "a" + wrong, "a" + wrong + "z"):
                self.assert_invalid((name, ((name, numbers(0)),)))

    def test_a_wrong_name_that_is_not_the_root(self):
        self.assert_invalid(("b", (("B", numbers(0)), ("b", numbers(0)))))
        self.assert_invalid(("b", (("", numbers(0)), ("b", numbers(0)))))
        self.assert_invalid(("b", (("b", numbers(0)), ("b1", numbers(0)))))
        self.assert_invalid(("b", (("b", numbers(0)), ("c" * 13, numbers(0)))))


class Parts(Checks):
    def bodies_with(self, part):
        return (
            ("list", part, 0, 1), ("list", part, 1, 1), record(needs(part)), record(may_have(part)),
            record(needs(NUMBER, 1), may_have(part, 2)), union((1, part), (2, NUMBER)),
            union((1, NUMBER), (2, part)), union((1, part), is_open=True))

    def test_leaves(self):
        for part in (NUMBER, TEXT, CHOICE, ("choice", (), (), True), ("choice", (1,), (2,), True)):
            for body in self.bodies_with(part):
                self.assert_body(body, holds=True)

    def test_leaves_for_which_point_2_does_not_hold(self):
        for part in WRONG_LEAVES:
            for body in self.bodies_with(part):
                self.assert_body(body, holds=False)

    def test_names_of_the_schema(self):
        for body in self.bodies_with("c"):
            self.assert_valid(("a", (("a", body), ("c", record()))))

    def test_names_that_the_schema_does_not_have(self):
        for part in ("x", "", "A", "aa", "ab", "number", "record", "abcdefghijklm"):
            for body in self.bodies_with(part):
                self.assert_body(body, holds=False)

    def test_a_definition_that_is_called_as_a_kind(self):
        for name in ("number", "text", "choice", "list", "record", "union"):
            for body in self.bodies_with(name):
                self.assert_valid(("a", (("a", body), (name, numbers(1)))))


class Lists(Checks):
    def test_bounds(self):
        for low, high in ((0, 1), (0, 99), (1, 1), (99, 99), (3, 7)):
            self.assert_body(("list", NUMBER, low, high), holds=True)

    def test_low_below_0(self):
        self.assert_body(("list", NUMBER, -1, 5), holds=False)

    def test_high_above_99(self):
        self.assert_body(("list", NUMBER, 0, 100), holds=False)

    def test_high_below_1(self):
        self.assert_body(("list", NUMBER, 0, 0), holds=False)

    def test_low_above_high(self):
        self.assert_body(("list", NUMBER, 2, 1), holds=False)
        self.assert_body(("list", NUMBER, 99, 98), holds=False)


class Records(Checks):
    def test_records_without_fields(self):
        self.assert_body(record(), holds=True)
        self.assert_body(record(retired=(1, 99)), holds=True)

    def test_ids(self):
        self.assert_body(record(needs(NUMBER, 1), needs(TEXT, 99)), holds=True)
        self.assert_body(record(*(may_have(NUMBER, number) for number in range(1, 100))), holds=True)
        self.assert_body(record(may_have(NUMBER, 5), retired=(1, 4, 6, 99)), holds=True)

    def test_ids_out_of_range(self):
        for wrong in (-1, 0, 100, 1000):
            self.assert_body(record(needs(NUMBER, wrong)), holds=False)
            self.assert_body(record(retired=(wrong,)), holds=False)

    def test_ids_in_the_wrong_order(self):
        self.assert_body(record(needs(NUMBER, 2), needs(NUMBER, 1)), holds=False)
        self.assert_body(record(needs(NUMBER, 1), needs(NUMBER, 3), needs(NUMBER, 2)), holds=False)
        self.assert_body(record(retired=(2, 1)), holds=False)

    def test_ids_that_occur_twice(self):
        self.assert_body(record(needs(NUMBER, 1), needs(NUMBER, 1)), holds=False)
        self.assert_body(record(needs(NUMBER, 1), may_have(TEXT, 2), may_have(TEXT, 2)), holds=False)
        self.assert_body(record(retired=(2, 2)), holds=False)

    def test_retired_ids_of_fields(self):
        self.assert_body(record(needs(NUMBER, 1), retired=(1,)), holds=False)
        self.assert_body(record(may_have(NUMBER, 4), may_have(NUMBER, 8), retired=(3, 5, 8)), holds=False)

    def test_modes(self):
        for mode in ("required", "optional"):
            self.assert_body(record((1, NUMBER, mode, None)), holds=True)
        for mode in ("", "Required", "needed", "default ", "defaults", "list", "none"):
            self.assert_body(record((1, NUMBER, mode, None)), holds=False)
            self.assert_body(record((1, NUMBER, mode, 3)), holds=False)

    def test_default_where_none_may_stand(self):
        for mode in ("required", "optional"):
            for part, default in ((NUMBER, 3), (NUMBER, 0), (TEXT, "aaa"), (("text", 0, 5), ""), (CHOICE, 1), ("a", 0)):
                self.assert_body(record((1, part, mode, default)), holds=False)

    def test_defaults_of_numbers(self):
        part = ("number", -4, 9)
        for default in (-4, 0, 9):
            self.assert_body(record((1, part, "default", default)), holds=True)
        for default in (-5, 10, None, "", "a", "0"):
            self.assert_body(record((1, part, "default", default)), holds=False)

    def test_defaults_of_texts(self):
        for default in ("aa", "hi ", "~~~~~"):
            self.assert_body(record((1, TEXT, "default", default)), holds=True)
        for default in ("", "a", "aaaaaa", "a\tb", "a\nb", None, 0, 2, 3):
            self.assert_body(record((1, TEXT, "default", default)), holds=False)
        self.assert_body(record((1, ("text", 0, 5), "default", "")), holds=True)

    def test_defaults_of_choices(self):
        for part in (CHOICE, ("choice", (1,), (), True)):
            for default in (0, 1, 2, None, "a"):
                self.assert_body(record((1, part, "default", default)), holds=False)

    def test_defaults_of_names(self):
        for default in (None, 0, 1, "", "a"):
            self.assert_invalid(schema(a=record((1, "b", "default", default)), b=record()))
            self.assert_invalid(schema(number=record((1, "text", "default", default)), text=record()))

    def test_defaults_of_leaves_for_which_point_2_does_not_hold(self):
        for part, default in ((("number", 0, FARTHEST + 1), 5), (("text", 0, 41), "a"), (("text", -1, 4), "a")):
            self.assert_body(record((1, part, "default", default)), holds=False)

    def test_a_fault_in_the_last_field(self):
        self.assert_body(record(needs(NUMBER, 1), (2, NUMBER, "default", 10)), holds=False)
        self.assert_body(record((1, NUMBER, "default", 9), (2, TEXT, "required", "aa")), holds=False)


class Unions(Checks):
    def test_open_unions(self):
        self.assert_body(union(is_open=True), holds=True)
        self.assert_body(union(retired=(1, 99), is_open=True), holds=True)
        self.assert_body(union((1, NUMBER), (99, TEXT), retired=(2,), is_open=True), holds=True)

    def test_other_unions(self):
        self.assert_body(union((1, NUMBER)), holds=True)
        self.assert_body(union((1, NUMBER), (99, TEXT)), holds=True)
        self.assert_body(union(*((number, NUMBER) for number in range(1, 100))), holds=True)

    def test_other_unions_without_cases(self):
        self.assert_body(union(), holds=False)

    def test_other_unions_with_retired_ids(self):
        self.assert_body(union((1, NUMBER), retired=(2,)), holds=False)
        self.assert_body(union(retired=(2,)), holds=False)

    def test_ids_out_of_range(self):
        for wrong in (-1, 0, 100, 1000):
            self.assert_body(union((wrong, NUMBER)), holds=False)
            self.assert_body(union((wrong, NUMBER), is_open=True), holds=False)
            self.assert_body(union(retired=(wrong,), is_open=True), holds=False)

    def test_ids_in_the_wrong_order(self):
        for is_open in (False, True):
            self.assert_body(union((2, NUMBER), (1, NUMBER), is_open=is_open), holds=False)
            self.assert_body(union((1, NUMBER), (3, NUMBER), (2, NUMBER), is_open=is_open), holds=False)
        self.assert_body(union(retired=(2, 1), is_open=True), holds=False)

    def test_ids_that_occur_twice(self):
        for is_open in (False, True):
            self.assert_body(union((1, NUMBER), (1, NUMBER), is_open=is_open), holds=False)
            self.assert_body(union((1, NUMBER), (2, TEXT), (2, TEXT), is_open=is_open), holds=False)
        self.assert_body(union(retired=(2, 2), is_open=True), holds=False)

    def test_retired_ids_of_cases(self):
        self.assert_body(union((1, NUMBER), retired=(1,), is_open=True), holds=False)
        self.assert_body(union((4, NUMBER), (8, TEXT), retired=(3, 5, 8), is_open=True), holds=False)


class DefinitionsWithoutValues(Checks):
    def test_a_record_that_needs_itself(self):
        self.assert_invalid(schema(a=record(needs("a"))))
        self.assert_invalid(schema(a=record(needs(NUMBER, 1), needs("a", 2))))
        self.assert_valid(schema(a=record(may_have("a"))))

    def test_a_list_that_needs_itself(self):
        self.assert_invalid(schema(a=("list", "a", 1, 1)))
        self.assert_valid(schema(a=("list", "a", 0, 1)))

    def test_a_union_of_itself(self):
        self.assert_invalid(schema(a=union((1, "a"))))
        self.assert_valid(schema(a=union((1, "a"), is_open=True)))
        self.assert_valid(schema(a=union((1, "a"), (2, NUMBER))))

    def test_definitions_that_need_one_another(self):
        self.assert_invalid(schema(a=record(needs("b")), b=("list", "c", 1, 1), c=union((1, "a"))))
        self.assert_valid(schema(a=record(needs("b")), b=("list", "c", 0, 1), c=union((1, "a"))))

    def test_a_definition_that_the_root_does_not_reach(self):
        self.assert_invalid(schema(a=record(), b=record(needs("b"))))
        self.assert_invalid(("b", (("a", record(needs("a"))), ("b", record()))))

    def test_a_definition_that_values_of_the_root_do_without(self):
        self.assert_invalid(schema(a=record(may_have("b")), b=record(needs("b"))))
        self.assert_invalid(schema(a=("list", "b", 0, 5), b=record(needs("b"))))
        self.assert_invalid(schema(a=union((1, "b"), (2, NUMBER)), b=record(needs("b"))))


class SizesOfSimpleValues(Checks):
    def assert_bound(self, make):
        """Checks that a schema is valid if its simple value has 100 values, and not if it has 101."""
        self.assert_valid(make(0))
        self.assert_invalid(make(1))

    def test_a_list(self):
        self.assert_valid(schema(a=numbers(99)))
        self.assert_bound(lambda more: schema(a=("list", "b", 1, 1), b=numbers(98 + more)))

    def test_records(self):
        self.assert_bound(lambda more: schema(
            a=record(needs("b", 1), needs("b", 2), *(needs(NUMBER, number) for number in range(3, 4 + more))),
            b=numbers(48)))

    def test_required_fields_count(self):
        fields = tuple(needs(NUMBER, number) for number in range(1, 100))
        self.assert_valid(schema(a=record(*fields)))
        self.assert_invalid(schema(a=record(*fields), b=record(needs("a"))))

    def test_default_fields_count(self):
        fields = tuple((number, NUMBER, "default", 1) for number in range(1, 51))
        self.assert_bound(lambda more: schema(a=record(*fields, needs("b", 60)), b=numbers(48 + more)))

    def test_optional_fields_do_not_count(self):
        self.assert_valid(schema(a=record(needs("b", 1), may_have("b", 2), may_have("b", 3)), b=numbers(98)))

    def test_a_list_in_a_list(self):
        # 1 list, 9 lists in it, 9 * 10 numbers in these.
        self.assert_valid(schema(a=("list", "b", 9, 9), b=numbers(10)))
        self.assert_valid(schema(a=("list", "b", 3, 9), b=numbers(32)))
        self.assert_invalid(schema(a=("list", "b", 4, 9), b=numbers(24)))
        self.assert_invalid(schema(a=("list", "b", 10, 10), b=numbers(9)))
        self.assert_valid(schema(a=("list", "b", 33, 33), b=record(needs(NUMBER, 1), needs(NUMBER, 2))))

    def test_lists_count_their_low_alone(self):
        self.assert_valid(schema(a=("list", "b", 0, 99), b=numbers(99)))
        self.assert_valid(schema(a=("list", "b", 1, 99), b=numbers(98)))
        self.assert_invalid(schema(a=("list", "b", 1, 99), b=numbers(99)))

    def test_a_text_is_one_value(self):
        self.assert_valid(schema(a=("list", ("text", 40, 40), 99, 99)))

    def test_open_unions_count_as_one(self):
        self.assert_valid(schema(a=union((1, "b"), is_open=True), b=numbers(99)))
        self.assert_bound(lambda more: schema(
            a=record(needs("b", 1), needs("c", 2)), b=numbers(97 + more), c=union((1, "a"), is_open=True)))

    def test_other_unions_count_their_case(self):
        self.assert_bound(lambda more: schema(a=union((1, "b")), b=numbers(98 + more)))
        self.assert_bound(lambda more: schema(
            a=record(needs("b", 1), needs("c", 2)), b=numbers(96 + more), c=union((1, NUMBER))))

    def test_the_case_with_the_least_depth_counts(self):
        # The case with more values counts, because it is less deep.
        self.assert_invalid(schema(a=union((1, "b"), (2, "c")), b=numbers(99), c=("list", "d", 1, 1), d=numbers(1)))
        self.assert_invalid(schema(a=union((1, "c"), (2, "b")), b=numbers(99), c=("list", "d", 1, 1), d=numbers(1)))
        # The case with fewer values counts, because it is less deep.
        self.assert_valid(schema(a=union((1, "b"), (2, "c")), b=("list", "d", 1, 1), c=numbers(1), d=numbers(98)))
        self.assert_valid(schema(a=union((1, "c"), (2, "b")), b=("list", "d", 1, 1), c=numbers(1), d=numbers(98)))

    def test_a_leaf_is_the_least_deep_case(self):
        self.assert_valid(schema(a=union((1, "b"), (2, NUMBER)), b=numbers(99)))
        self.assert_valid(schema(a=union((1, NUMBER), (2, "b")), b=numbers(99)))

    def test_the_least_id_counts_among_the_cases_with_the_least_depth(self):
        self.assert_invalid(schema(a=union((1, "b"), (2, "c")), b=numbers(99), c=numbers(1)))
        self.assert_valid(schema(a=union((1, "c"), (2, "b")), b=numbers(99), c=numbers(1)))
        self.assert_invalid(schema(a=union((3, "c"), (7, "b"), (9, "b")), b=numbers(1), c=numbers(99)))

    def test_each_definition_counts(self):
        self.assert_invalid(schema(a=record(), b=("list", "c", 2, 2), c=numbers(50)))
        self.assert_invalid(("c", schema(a=("list", "b", 2, 2), b=numbers(50), c=record())[1]))
        self.assert_valid(schema(a=record(), b=("list", "c", 2, 2), c=numbers(48)))

    def test_simple_values_that_can_not_be_built(self):
        names = "abcdefgh"
        chain = tuple((name, ("list", after, 99, 99)) for name, after in zip(names, names[1:])) + (("h", numbers(99)),)
        self.assert_invalid(("a", chain))
        self.assert_invalid(("h", chain))
        back = (("a", numbers(99)),) + tuple((name, ("list", before, 99, 99)) for before, name in zip(names, names[1:]))
        self.assert_invalid(("a", back))
        self.assert_invalid(("h", back))

    def test_records_whose_simple_values_can_not_be_built(self):
        names = "abcdefgh"
        chain = tuple(
            (name, record(*(needs(after, number) for number in range(1, 100)))) for name, after in zip(names, names[1:]))
        self.assert_invalid(("a", chain + (("h", record()),)))

    def test_a_chain_of_lists_that_is_not_too_large(self):
        names = "abcdefgh"
        chain = tuple((name, ("list", after, 1, 99)) for name, after in zip(names, names[1:]))
        self.assert_valid(("a", chain + (("h", numbers(92)),)))
        self.assert_invalid(("a", chain + (("h", numbers(93)),)))
        self.assert_valid(("a", tuple((name, ("list", "h", 0, 99)) for name in names[:-1]) + (("h", numbers(99)),)))

    def test_definitions_that_the_simple_value_does_without(self):
        self.assert_valid(schema(
            a=record(may_have("a", 1), needs("b", 2)), b=union((1, "a"), (2, "c")), c=("list", "a", 0, 99)))


if __name__ == "__main__":
    unittest.main()
