"""is_of and is_message: points 5 and 6."""

import unittest

from schemabridge.values import is_message, is_of
from tests.building import (
    CHOICE, DEEP, LISTS, NUMBER, RECORDS, TEXT, UNIONS, deep_lists, deep_records, deep_unions, defaults, may_have,
    needs, record, schema, union)

# What stands where something else is due.
STRANGE = (
    None, (), (1,), ("a",), (None,), ((),), ((), ()), (0, None), (0, 0), (0, ()), (1, None), (None, 1), ("1", 1),
    ((1, 1),), ((1, 1), (2, 2)), (1, 1, 1), ((1, 1, 1),), ("ab",), ("ab", "cd"), ((1,),), (((1, 1),),), "", "a", "1",
    "ab", "ab cd", 0, 1, 5, -1, 100)

NOTE = record(needs(NUMBER, 2), may_have(TEXT, 4), defaults(NUMBER, 7, 6), needs("tags", 8), retired=(1, 5, 9))
TOPIC = union((2, NUMBER), (4, "tags"), retired=(1, 3), is_open=True)
ONE_OF = union((2, NUMBER), (4, "tags"))
NOTES = schema(note=NOTE, notes=("list", "note", 1, 3), one=ONE_OF, tags=("list", TEXT, 0, 2), topic=TOPIC)


class Checks(unittest.TestCase):
    def assert_of(self, part, *values, within=NOTES):
        for value in values:
            self.assertIs(is_of(within, part, value), True, (part, value))

    def assert_not_of(self, part, *values, within=NOTES):
        for value in values:
            self.assertIs(is_of(within, part, value), False, (part, value))


class Leaves(Checks):
    def test_numbers(self):
        self.assert_of(NUMBER, 0, 5, 9)
        self.assert_not_of(NUMBER, -1, 10, 10 ** 30, -10 ** 30)
        self.assert_of(("number", -10 ** 15, -3), -10 ** 15, -3)
        self.assert_not_of(("number", -10 ** 15, -3), -10 ** 15 - 1, -2, 0)
        self.assert_not_of(NUMBER, *(strange for strange in STRANGE if not isinstance(strange, int)))

    def test_texts(self):
        self.assert_of(TEXT, "ab", "     ", "~ ~")
        self.assert_not_of(TEXT, "", "a", "abcdef", "ab\t", "\nab", "a%b")
        self.assert_not_of(TEXT, *(strange for strange in STRANGE if not isinstance(strange, str)))

    def test_choices(self):
        leaf = ("choice", (2, 4), (1, 3), True)
        self.assert_of(leaf, 0, 2, 4)
        self.assert_not_of(leaf, -1, 1, 3, 5, 99, 100)
        self.assert_of(CHOICE, 1, 2)
        self.assert_not_of(CHOICE, 0, 3)
        for part in (leaf, CHOICE, ("choice", (), (), True)):
            self.assert_not_of(part, *(strange for strange in STRANGE if not isinstance(strange, int)))

    def test_leaves_that_the_schema_does_not_have(self):
        self.assert_of(("text", 7, 7), "letters")
        self.assert_not_of(("text", 7, 7), "letter")
        self.assert_of(("number", 50, 60), 55)


class Lists(Checks):
    def test_values(self):
        self.assert_of("tags", (), ("ab",), ("ab", "abcde"), ("ab", "ab"))

    def test_numbers_of_items(self):
        self.assert_not_of("tags", ("ab", "ab", "ab"))
        note = ((2, 1), (6, 7), (8, ()))
        self.assert_not_of("notes", ())
        self.assert_of("notes", (note,), (note, note, note))
        self.assert_not_of("notes", (note, note, note, note))

    def test_a_wrong_item_at_each_place(self):
        good = ((2, 1), (6, 7), (8, ()))
        for wrong in (((2, 10), (6, 7), (8, ())), ((6, 7), (8, ())), *STRANGE):
            self.assert_not_of("notes", (wrong,), (wrong, good, good), (good, wrong, good), (good, good, wrong))

    def test_something_that_is_no_list(self):
        self.assert_not_of("tags", *(strange for strange in STRANGE if strange not in ((), ("ab",), ("ab", "cd"))))
        # A string has characters, which are no texts; nor is the string a list of texts of one character.
        within = schema(a=("list", ("text", 1, 1), 0, 9), b=("list", "a", 0, 9))
        self.assert_of("a", (), ("a",), ("a", "b"), within=within)
        self.assert_not_of("a", "", "a", "ab", None, 3, within=within)
        self.assert_of("b", (), ((),), (("a",), ()), within=within)
        self.assert_not_of("b", ("",), ("a",), ("ab", ()), within=within)

    def test_full_lists(self):
        within = schema(a=("list", NUMBER, 99, 99))
        self.assert_of("a", (3,) * 99, within=within)
        self.assert_not_of("a", (3,) * 98, (3,) * 100, (3,) * 98 + (10,), (10,) + (3,) * 98, within=within)


class Records(Checks):
    def test_values(self):
        self.assert_of(
            "note", ((2, 0), (4, "ab"), (6, 7), (8, ("ab",))), ((2, 9), (6, 0), (8, ())),
            ((2, 9), (4, "abcde"), (6, 9), (8, ("ab", "cd"))))

    def test_fields_left_out(self):
        whole = ((2, 0), (4, "ab"), (6, 7), (8, ()))
        self.assert_of("note", whole[:1] + whole[2:])
        self.assert_not_of("note", whole[1:], whole[:2] + whole[3:], whole[:3])
        self.assert_not_of("note", whole[2:], whole[:2], (whole[0], whole[3]), ())

    def test_fields_doubled(self):
        whole = ((2, 0), (4, "ab"), (6, 7), (8, ()))
        for place in range(4):
            self.assert_not_of("note", whole[:place] + whole[place:place + 1] + whole[place:])
        self.assert_not_of("note", whole + whole, whole + whole[:1])

    def test_fields_moved(self):
        whole = ((2, 0), (4, "ab"), (6, 7), (8, ()))
        for place in range(3):
            self.assert_not_of("note", whole[:place] + (whole[place + 1], whole[place]) + whole[place + 2:])
        self.assert_not_of("note", whole[::-1], whole[1:] + whole[:1], whole[3:] + whole[:3])

    def test_fields_that_do_not_occur(self):
        self.assert_not_of(
            "note", ((2, 0), (3, 0), (6, 7), (8, ())), ((0, 0), (2, 0), (6, 7), (8, ())),
            ((2, 0), (6, 7), (8, ()), (10, 0)), ((-1, 0), (2, 0), (6, 7), (8, ())),
            ((2, 0), (6, 7), (7, None), (8, ())))

    def test_retired_fields(self):
        self.assert_not_of(
            "note", ((1, 0), (2, 0), (6, 7), (8, ())), ((2, 0), (5, "ab"), (6, 7), (8, ())),
            ((2, 0), (6, 7), (8, ()), (9, ())))

    def test_a_wrong_value_in_each_field(self):
        self.assert_not_of(
            "note", ((2, 10), (4, "ab"), (6, 7), (8, ())), ((2, 0), (4, "a"), (6, 7), (8, ())),
            ((2, 0), (4, "ab"), (6, 10), (8, ())), ((2, 0), (4, "ab"), (6, 7), (8, ("a",))))
        self.assert_not_of(
            "note", ((2, None), (4, "ab"), (6, 7), (8, ())), ((2, 0), (4, None), (6, 7), (8, ())),
            ((2, 0), (4, "ab"), (6, None), (8, ())), ((2, 0), (4, "ab"), (6, 7), (8, None)))
        self.assert_not_of("note", ((2, "ab"), (4, "ab"), (6, 7), (8, ())), ((2, 0), (4, 0), (6, 7), (8, ())))

    def test_entries_of_another_shape(self):
        for wrong in (
                2, "2", "20", "ab", None, (), (2,), (2, 0, 0), ((2, 0),), ("2", 0), (None, 0), ((2,), 0), ((), 0)):
            self.assert_not_of("note", (wrong, (6, 7), (8, ())), ((2, 0), wrong, (6, 7), (8, ())))
            self.assert_not_of("note", ((2, 0), (6, 7), (8, ()), wrong), (wrong,), wrong)
        deep = ()
        for _ in range(190):
            deep = (deep,)
        self.assert_not_of("note", ((deep, 0), (6, 7), (8, ())), ((2, deep), (6, 7), (8, ())), deep)

    def test_something_that_is_no_record(self):
        self.assert_not_of("note", *STRANGE)
        empty = schema(a=record(), b=record(may_have(NUMBER)))
        self.assert_of("a", (), within=empty)
        self.assert_not_of("a", *(strange for strange in STRANGE if strange != ()), within=empty)
        self.assert_of("b", (), ((1, 1),), within=empty)
        self.assert_not_of("b", *(strange for strange in STRANGE if strange not in ((), ((1, 1),))), within=empty)

    def test_an_optional_field_that_holds_none(self):
        self.assert_not_of("note", ((2, 0), (4, None), (6, 7), (8, ())))


class Unions(Checks):
    def test_values(self):
        for part in ("topic", "one"):
            self.assert_of(part, (2, 0), (2, 9), (4, ()), (4, ("ab", "cd")))

    def test_the_case_that_is_not_known(self):
        self.assert_of("topic", (0, None))
        self.assert_not_of("one", (0, None))
        for part in ("topic", "one"):
            self.assert_not_of(part, (0, 0), (0, ()), (0, (0, None)), (0, "ab"), (0,), (0, None, None), ("0", None), 0)
            self.assert_not_of(part, (None, None), (None, 0), (1, None), (2, None))

    def test_cases_that_do_not_occur(self):
        for part in ("topic", "one"):
            self.assert_not_of(part, (5, 0), (-1, 0), (99, ()), (100, None))

    def test_retired_cases(self):
        self.assert_not_of("topic", (1, 0), (3, 0), (1, None), (3, ()))

    def test_a_wrong_value_in_a_case(self):
        for part in ("topic", "one"):
            self.assert_not_of(part, (2, 10), (2, "ab"), (2, ()), (2, (0, None)), (4, 0), (4, ("a",)), (4, None))

    def test_something_that_is_no_union(self):
        for part in ("topic", "one"):
            self.assert_not_of(part, *(strange for strange in STRANGE if strange != (0, None)))
            self.assert_not_of(part, (2,), (2, 0, 0), ((2, 0),), ("2", 0), (None, 0), ((2,), 0), "20", ((), 0))
        deep = ()
        for _ in range(190):
            deep = (deep,)
        self.assert_not_of("topic", (deep, 0), (2, deep), (deep, None), deep)

    def test_a_union_without_cases(self):
        within = schema(a=union(retired=(1,), is_open=True))
        self.assert_of("a", (0, None), within=within)
        self.assert_not_of("a", (1, None), (0, 0), (2, None), within=within)


class Names(Checks):
    def test_a_name_that_is_called_as_a_kind(self):
        within = schema(list=record(needs("number")), number=("list", TEXT, 0, 1))
        self.assert_of("number", (), ("ab",), within=within)
        self.assert_not_of("number", 5, within=within)
        self.assert_of("list", ((1, ()),), within=within)
        self.assert_not_of("list", (), ((1, 5),), within=within)

    def test_definitions_in_one_another(self):
        within = schema(a=record(may_have("b"), needs(NUMBER, 2)), b=("list", "c", 0, 3), c=union((1, "a"), (2, TEXT)))
        inner = (1, ((1, ((2, "ab"), (1, ((2, 3),)))), (2, 5)))
        self.assert_of("c", inner, within=within)
        self.assert_of("a", ((1, (inner, (2, "cd"), inner)), (2, 0)), within=within)
        wrong = (1, ((1, ((2, "ab"), (1, ((2, 10),)))), (2, 5)))
        self.assert_not_of("a", ((1, (inner, (2, "cd"), wrong)), (2, 0)), within=within)
        self.assert_not_of("a", ((1, (inner, (2, "c"), inner)), (2, 0)), within=within)


class Messages(unittest.TestCase):
    def test_values_of_the_root(self):
        within = ("note", NOTES[1])
        self.assertIs(is_message(within, ((2, 0), (4, "ab"), (6, 7), (8, ("ab",)))), True)
        self.assertIs(is_message(within, ((2, 0), (4, "ab"), (6, 7), (8, ("a",)))), False)

    def test_values_of_another_definition(self):
        self.assertIs(is_message(("topic", NOTES[1]), (0, None)), True)
        self.assertIs(is_message(("topic", NOTES[1]), ()), False)
        self.assertIs(is_message(("tags", NOTES[1]), (0, None)), False)
        self.assertIs(is_message(("tags", NOTES[1]), ()), True)

    def test_what_is_no_value(self):
        for strange in STRANGE:
            self.assertIs(is_message(("note", NOTES[1]), strange), False, strange)

    def test_up_to_80_levels(self):
        for within, deep in DEEP:
            for levels in (1, 2, 79, 80):
                self.assertIs(is_of(within, "a", deep(levels)), True)
                self.assertIs(is_message(within, deep(levels)), True, (within, levels))

    def test_more_than_80_levels(self):
        for within, deep in DEEP:
            for levels in (81, 82, 95):
                self.assertIs(is_of(within, "a", deep(levels)), True)
                self.assertIs(is_message(within, deep(levels)), False, (within, levels))
        self.assertIs(is_of(LISTS, "a", deep_lists(200)), True)
        self.assertIs(is_of(UNIONS, "a", deep_unions(200)), True)
        self.assertIs(is_of(RECORDS, "a", deep_records(100)), True)
        self.assertIs(is_message(LISTS, deep_lists(200)), False)
        self.assertIs(is_message(UNIONS, deep_unions(200)), False)
        self.assertIs(is_message(RECORDS, deep_records(100)), False)

    def test_81_levels_at_each_place(self):
        deep = deep_lists(80)
        self.assertIs(is_message(LISTS, (deep,)), False)
        self.assertIs(is_message(LISTS, ((), deep)), False)
        self.assertIs(is_message(LISTS, (deep, ())), False)
        self.assertIs(is_message(LISTS, (deep[0], deep[0])), True)

    def test_leaves_add_no_level(self):
        within = schema(a=union((1, "a"), (2, NUMBER), (3, "b")), b=record())
        for inner, levels in (((2, 5), 1), ((3, ()), 2)):
            value = inner
            for _ in range(80 - levels):
                value = (1, value)
            self.assertIs(is_message(within, value), True)
            self.assertIs(is_message(within, (1, value)), False)
            self.assertIs(is_of(within, "a", (1, value)), True)

    def test_a_fault_far_inside(self):
        value = (3, (0, 0))
        for _ in range(100):
            value = (3, value)
        self.assertIs(is_of(UNIONS, "a", value), False)
        self.assertIs(is_message(UNIONS, value), False)


if __name__ == "__main__":
    unittest.main()
