"""Bodies that keep or break one rule of points 19 to 21 alone, and places behind chains at which they stand."""

from tests.building import NUMBER, TEXT, defaults, may_have, needs, record, union


def closed(*symbols):
    return ("choice", symbols, (), False)


def opened(symbols, retired=()):
    return ("choice", symbols, retired, True)


# Schemas whose definition "z" is left out, and to which "z" stands behind a chain of one kind.
CHAINS = {
    "at the root": ("z", ()),
    "behind lists": ("a", (("a", ("list", "b", 0, 2)), ("b", ("list", "c", 2, 9)), ("c", ("list", "z", 1, 1)))),
    "behind required fields": ("a", (
        ("a", record(needs(NUMBER, 1), needs("b", 3))), ("b", record(needs("z", 2), defaults(TEXT, "abc", 4))))),
    "behind optional fields": ("a", (
        ("a", record(may_have(TEXT, 1), may_have("b", 4), may_have("b", 9))),
        ("b", record(may_have("z", 2), needs(NUMBER, 7), retired=(5,))))),
    "behind cases": ("a", (
        ("a", union((1, NUMBER), (2, "b"))), ("b", union((5, "z"), (6, "z"), retired=(1, 9), is_open=True)))),
    "behind definitions that need themselves": ("a", (
        ("a", record(may_have("a", 1), may_have("c", 2), may_have("b", 5))), ("b", ("list", "c", 0, 5)),
        ("c", union((1, "c"), (2, "a"), (3, "z"), is_open=True)))),
    "behind a record that needs itself on the way": ("a", (
        ("a", union((1, "b"), (2, TEXT))), ("b", record(may_have("b", 1), needs("c", 2))),
        ("c", ("list", "z", 0, 9)))),
}


def placed(chain, body):
    """The schema in which the body stands as "z" at that place."""
    root, definitions = CHAINS[chain]
    return (root, definitions + (("z", body),))


# Pairs of an old and a new leaf that obey the rules of point 19.
KEPT_LEAVES = (
    (NUMBER, NUMBER), (("number", -7, 3), ("number", -8, 3)), (("number", -7, 3), ("number", -7, 4)),
    (TEXT, TEXT), (("text", 3, 7), ("text", 2, 7)), (("text", 3, 7), ("text", 3, 40)),
    (closed(2, 4), closed(2, 4)), (closed(2, 4), closed(2, 3, 4)), (closed(2, 4), opened((2, 4))),
    (closed(2, 4), opened((2,), (4,))), (opened((2,), (4,)), opened((2, 3), (1, 4))), (opened(()), opened((), (7,))),
    (opened((2,), (4,)), opened((), (2, 4))))

# Pairs of an old and a new leaf that break one of them, under the number of the way of point 25.
BROKEN_LEAVES = (
    (1, NUMBER, TEXT), (1, TEXT, NUMBER), (1, TEXT, closed(1)), (1, closed(1), ("number", 1, 1)),
    (1, opened(()), NUMBER), (1, NUMBER, opened((), (1,))),
    (2, ("number", -7, 3), ("number", -6, 3)), (2, ("number", -7, 3), ("number", -7, 2)),
    (2, ("number", -7, -3), ("number", 5, 9)), (2, ("text", 3, 7), ("text", 4, 7)),
    (2, ("text", 3, 7), ("text", 3, 6)), (2, ("text", 0, 0), ("text", 1, 1)), (2, ("text", 0, 40), ("text", 0, 39)),
    (3, closed(2, 4), closed(2)), (3, closed(2, 4), closed(3, 4)), (3, closed(2), closed(3)),
    (4, closed(2, 4), opened((2,))), (4, closed(2), opened((), (3,))), (4, opened((2,), (4,)), opened((), (4,))),
    (5, opened((2,), (4,)), opened((2, 4))), (5, opened((2,), (4, 6)), opened((2, 4), (6,))),
    (5, opened((), (4,)), opened((4,))),
    (6, opened((2,)), closed(2)), (6, opened(()), closed(1)), (6, opened((2,)), closed(2, 3)),
    (7, opened((2,), (4,)), opened((2,))), (7, opened((), (4, 6)), opened((), (4,))),
    (7, opened((2,), (4,)), opened((2,), (3,))))


def leaf_bodies(old, new):
    """Pairs of bodies that differ in a leaf only."""
    return (
        (("list", old, 0, 5), ("list", new, 0, 5)),
        (("list", old, 3, 5), ("list", new, 3, 5)),
        (record(needs(old, 3), needs(NUMBER, 4)), record(needs(new, 3), needs(NUMBER, 4))),
        (record(may_have("z", 1), may_have(old, 3)), record(may_have("z", 1), may_have(new, 3))),
        (union((1, TEXT), (3, old)), union((1, TEXT), (3, new))),
        (union((2, "z"), (3, old), retired=(7,), is_open=True), union((2, "z"), (3, new), retired=(7,), is_open=True)))


# Pairs of an old and a new body that obey the rules of point 20.
KEPT_BODIES = (
    (("list", NUMBER, 3, 7), ("list", NUMBER, 3, 7)), (("list", NUMBER, 3, 7), ("list", NUMBER, 2, 7)),
    (("list", "z", 0, 7), ("list", "z", 0, 99)), (record(), record()), (record(), record(retired=(1,))),
    (record(needs(NUMBER)), record(retired=(1,))), (record(may_have("z")), record(retired=(1, 3))),
    (record(defaults(NUMBER, 7)), record(retired=(1,))), (record(retired=(2,)), record(retired=(2, 3))),
    (record(needs(NUMBER)), record(needs(NUMBER))), (record(needs(NUMBER)), record(may_have(NUMBER))),
    (record(needs(NUMBER)), record(defaults(NUMBER, 7))), (record(may_have(NUMBER)), record(may_have(NUMBER))),
    (record(may_have(NUMBER)), record(defaults(NUMBER, 7))),
    (record(defaults(TEXT, "abc")), record(defaults(TEXT, "abc"))), (record(), record(may_have("z"))),
    (record(), record(defaults(NUMBER, 7))), (record(retired=(2,)), record(may_have(NUMBER), retired=(2,))),
    (union((1, NUMBER)), union((1, NUMBER))), (union((1, NUMBER)), union((1, NUMBER), (2, "z"))),
    (union((1, NUMBER), (2, "z")), union((1, NUMBER), retired=(2,), is_open=True)),
    (union((1, NUMBER)), union((1, NUMBER), is_open=True)), (union(is_open=True), union(retired=(4,), is_open=True)),
    (union((2, "z"), retired=(4,), is_open=True), union((2, "z"), (3, TEXT), retired=(1, 4), is_open=True)))

# Pairs of an old and a new body that break one of them, under the number of the way of point 25.
BROKEN_BODIES = (
    (1, ("list", NUMBER, 0, 5), record()), (1, record(), ("list", NUMBER, 0, 5)),
    (1, record(needs(NUMBER)), union((1, NUMBER))), (1, union((1, NUMBER)), record(needs(NUMBER))),
    (1, union(is_open=True), ("list", "z", 0, 5)), (1, ("list", "z", 0, 5), union(is_open=True)),
    (1, ("list", "z", 0, 5), ("list", NUMBER, 0, 5)), (1, ("list", NUMBER, 0, 5), ("list", "z", 0, 5)),
    (1, record(may_have("z", 4)), record(may_have(TEXT, 4))), (1, record(needs(TEXT, 4)), record(may_have("z", 4))),
    (1, record(defaults(NUMBER, 5, 4)), record(defaults(TEXT, "ab", 4))),
    (1, union((1, "z"), (2, NUMBER)), union((1, TEXT), (2, NUMBER))),
    (1, union((1, opened(())), (2, NUMBER)), union((1, "z"), (2, NUMBER))),
    (2, ("list", NUMBER, 3, 7), ("list", NUMBER, 4, 7)), (2, ("list", NUMBER, 3, 7), ("list", NUMBER, 3, 6)),
    (2, ("list", "z", 0, 7), ("list", "z", 0, 6)), (2, ("list", "z", 0, 7), ("list", "z", 0, 1)),
    (2, ("list", NUMBER, 0, 99), ("list", NUMBER, 0, 98)), (2, ("list", NUMBER, 0, 1), ("list", NUMBER, 1, 1)),
    (2, ("list", NUMBER, 1, 1), ("list", NUMBER, 2, 2)), (2, ("list", NUMBER, 4, 4), ("list", NUMBER, 0, 3)),
    (2, record(defaults(("number", 0, 9), 5)), record(defaults(("number", 1, 9), 5))),
    (2, record(defaults(("number", 0, 9), 5)), record(defaults(("number", 0, 8), 5))),
    (2, record(defaults(TEXT, "abc")), record(defaults(("text", 3, 5), "abc"))),
    (2, record(defaults(TEXT, "abc")), record(defaults(("text", 2, 4), "abc"))),
    (3, union((1, NUMBER), (2, TEXT)), union((1, NUMBER))), (3, union((1, NUMBER), (2, "z")), union((1, NUMBER))),
    (3, union((2, NUMBER)), union((1, NUMBER), (3, "z"))),
    (4, union((1, NUMBER), (2, TEXT)), union((1, NUMBER), is_open=True)),
    (4, union((2, NUMBER)), union(is_open=True)), (4, union((1, NUMBER), (2, "z")), union((1, NUMBER), is_open=True)),
    (4, union((2, NUMBER), retired=(5,), is_open=True), union(retired=(3, 5), is_open=True)),
    (5, union((2, "z"), retired=(4,), is_open=True), union((2, "z"), (4, NUMBER), is_open=True)),
    (5, union(retired=(4, 5), is_open=True), union((4, "z"), retired=(5,), is_open=True)),
    (5, union(retired=(4,), is_open=True), union((4, ("number", 3, 5)), is_open=True)),
    (5, union(retired=(4,), is_open=True), union((4, TEXT), is_open=True)),
    (6, union((1, NUMBER), is_open=True), union((1, NUMBER))), (6, union(is_open=True), union((1, TEXT))),
    (6, union((1, NUMBER), (2, "z"), is_open=True), union((1, NUMBER), (2, "z"), (3, "z"))),
    (7, union((2, "z"), retired=(4,), is_open=True), union((2, "z"), is_open=True)),
    (7, union(retired=(4, 6), is_open=True), union(retired=(3, 4), is_open=True)),
    (8, record(needs(NUMBER)), record()), (8, record(needs(TEXT)), record(retired=(2,))),
    (8, record(may_have("z")), record()), (8, record(defaults(NUMBER, 7)), record()),
    (8, record(needs(NUMBER, 1), may_have(NUMBER, 2), retired=(5,)), record(needs(NUMBER, 1), retired=(3, 5))),
    (9, record(retired=(4,)), record(needs(NUMBER, 4))), (9, record(retired=(4,)), record(may_have(NUMBER, 4))),
    (9, record(retired=(4,)), record(defaults(NUMBER, 0, 4))), (9, record(retired=(4,)), record(may_have("z", 4))),
    (9, record(retired=(3, 4)), record(defaults(TEXT, "ab", 4), retired=(3,))),
    (9, record(may_have("z"), retired=(4,)), record(may_have("z"), may_have(opened(()), 4))),
    (10, record(retired=(4,)), record()), (10, record(retired=(4, 6)), record(retired=(4, 5))),
    (10, record(needs(NUMBER), retired=(4,)), record(needs(NUMBER))),
    (11, record(may_have(NUMBER)), record(needs(NUMBER))),
    (11, record(may_have("z"), needs(TEXT, 3), may_have(NUMBER, 4)),
     record(may_have("z"), needs(TEXT, 3), needs(NUMBER, 4))),
    (12, record(defaults(NUMBER, 7)), record(needs(NUMBER))),
    (12, record(defaults(NUMBER, 7)), record(may_have(NUMBER))),
    (12, record(defaults(NUMBER, 7)), record(defaults(NUMBER, 8))),
    (12, record(defaults(TEXT, "abc")), record(defaults(TEXT, "abd"))),
    (12, record(may_have("z"), defaults(("text", 0, 5), "", 2)),
     record(may_have("z"), needs(("text", 0, 5), 2))),
    (13, record(), record(needs(NUMBER))), (13, record(), record(needs(opened(()), 8))),
    (13, record(may_have("z"), retired=(5,)), record(may_have("z"), needs(TEXT, 2), retired=(5,))))
