"""Chains of schemas that follow one another: points 17, 18, 22 and 23 over reading, steps and grounds."""

import unittest
from random import Random

from schemabridge.codec import decode, encode
from schemabridge.errors import Unreadable
from schemabridge.grounds import certificate_holds, compose, reachable_pairs
from schemabridge.reading import read, read_route
from schemabridge.values import is_message
from tests.building import NUMBER, TEXT, defaults, may_have, needs, record, schema, union
from tests.sampling import draw_next, draw_schema, draw_value

FIRST = ("note", (
    ("note", record(
        needs(TEXT, 1), may_have("notes", 2), needs(("choice", (1, 2, 3), (), False), 3), may_have(NUMBER, 4))),
    ("notes", ("list", "topic", 1, 9)),
    ("topic", union((1, TEXT), (2, "note"), (3, NUMBER)))))
SECOND = ("entry", (
    ("all", ("list", "subject", 0, 9)),
    ("entry", record(
        may_have(("text", 0, 5), 1), may_have("all", 2), needs(("choice", (1, 3), (2,), True), 3),
        defaults(NUMBER, 9, 6), retired=(4,))),
    ("subject", union((1, ("text", 2, 9)), (2, "entry"), retired=(3,), is_open=True))))
THIRD = ("a", (
    ("a", record(
        defaults(("text", 0, 9), "none", 1), may_have("b", 2), needs(("choice", (3, 5), (1, 2), True), 3),
        defaults(("number", 0, 99), 9, 6), may_have("a", 7), retired=(4,))),
    ("b", ("list", "c", 0, 99)),
    ("c", union((1, ("text", 0, 9)), (4, "a"), retired=(2, 3), is_open=True))))


class AChainOfThree(unittest.TestCase):
    MESSAGE = ((1, "abc"), (2, ((1, "ab"), (2, ((1, "de"), (3, 3), (4, 7))), (3, 5))), (3, 1), (4, 8))

    def test_each_schema_follows_the_one_before_it(self):
        for old, new in ((FIRST, SECOND), (SECOND, THIRD), (FIRST, THIRD)):
            self.assertIs(certificate_holds(old, new, reachable_pairs(old, new)), True)
        for old, new in ((SECOND, FIRST), (THIRD, SECOND), (THIRD, FIRST)):
            self.assertIs(certificate_holds(old, new, reachable_pairs(old, new)), False)

    def test_reading_along_them_is_reading_from_the_first_to_the_last(self):
        expected = ((1, "abc"), (2, ((1, "ab"), (0, None), (0, None))), (3, 0), (6, 9))
        self.assertEqual(read_route((FIRST, SECOND, THIRD), self.MESSAGE), expected)
        self.assertEqual(read(FIRST, THIRD, self.MESSAGE), expected)
        self.assertEqual(
            read(FIRST, SECOND, self.MESSAGE),
            ((1, "abc"), (2, ((1, "ab"), (2, ((1, "de"), (3, 3), (6, 9))), (0, None))), (3, 1), (6, 9)))

    def test_fields_that_are_left_out_on_the_way(self):
        self.assertEqual(read(SECOND, THIRD, ((3, 0), (6, 1))), ((1, "none"), (3, 0), (6, 1)))

    def test_the_composition_of_certificates_is_a_certificate(self):
        composed = compose(reachable_pairs(FIRST, SECOND), reachable_pairs(SECOND, THIRD))
        self.assertIs(certificate_holds(FIRST, THIRD, composed), True)
        self.assertEqual(composed, (("note", "a"), ("notes", "b"), ("topic", "c")))

    def test_steps_that_break_a_rule_do_tell(self):
        # Field 2 is left out of the second schema and comes back in the third one, so the second one is felt.
        first = schema(a=record(may_have(NUMBER, 2)))
        second = schema(a=record())
        third = schema(a=record(may_have(NUMBER, 2)))
        self.assertIs(certificate_holds(first, second, reachable_pairs(first, second)), False)
        self.assertEqual(read_route((first, second, third), ((2, 5),)), ())
        self.assertEqual(read(first, third, ((2, 5),)), ((2, 5),))


class RandomChains(unittest.TestCase):
    def setUp(self):
        random = Random(61)
        self.routes = []
        for _ in range(150):
            route = [draw_schema(random)]
            for _ in range(3):
                route.append(draw_next(random, route[-1]))
            values = [draw_value(random, route[0], route[0][0]) for _ in range(4)]
            self.routes.append((route, values))

    def test_each_schema_follows_all_that_stand_before_it(self):
        for route, _ in self.routes:
            for first in range(4):
                for last in range(first, 4):
                    pairs = reachable_pairs(route[first], route[last])
                    self.assertIs(certificate_holds(route[first], route[last], pairs), True)
                    self.assertIs(certificate_holds(route[first], route[last], pairs[::-1] + pairs), True)

    def test_reading_along_the_steps_is_reading_from_the_first_to_the_last(self):
        for route, values in self.routes:
            for value in values:
                expected = read(route[0], route[3], value)
                self.assertIs(is_message(route[3], expected), True)
                self.assertEqual(read_route(route, value), expected)
                self.assertEqual(read_route((route[0], route[1], route[3]), value), expected)
                self.assertEqual(read_route([route[0], route[2], route[3]], value), expected)
                self.assertEqual(decode(route[3], encode(route[3], expected)), expected)

    def test_compositions_are_certificates_that_contain_the_reachable_pairs(self):
        for route, _ in self.routes:
            composed = reachable_pairs(route[0], route[1])
            for place in (2, 3):
                composed = compose(composed, reachable_pairs(route[place - 1], route[place]))
                self.assertIs(certificate_holds(route[0], route[place], composed), True)
                for pair in reachable_pairs(route[0], route[place]):
                    self.assertIn(pair, composed)

    def test_each_certificate_contains_the_reachable_pairs(self):
        for route, _ in self.routes:
            pairs = reachable_pairs(route[0], route[1])
            for place in range(len(pairs)):
                self.assertIs(certificate_holds(route[0], route[1], pairs[:place] + pairs[place + 1:]), False)

    def test_messages_can_be_read_if_a_certificate_holds(self):
        random = Random(67)
        held = 0
        for _ in range(600):
            old, new = draw_schema(random), draw_schema(random)
            if certificate_holds(old, new, reachable_pairs(old, new)):
                held += 1
                for _ in range(5):
                    value = draw_value(random, old, old[0])
                    try:
                        self.assertIs(is_message(new, read(old, new, value)), True)
                    except Unreadable:
                        self.fail("a message can be read by each schema that follows")
        self.assertGreater(held, 0)


if __name__ == "__main__":
    unittest.main()
