"""Values that can't be handed in, and for each kind what is refused how."""

from sinkstack.errors import (BadCount, BadPair, BadPlan, BadSign, BadStack, BadSteps, BadText, BadTriple,
                              BadWork)

PLAN = (3, 2, (5, 4), 6)
OTHERS = [None, True, False, 0, 1, -1, 10 ** 30, [], (), ["a"], [1, 2]]


def rows_within(deep, work=("pop",)):
    """A work so many works deep."""
    for _ in range(deep - 1):
        work = ("row", (work,))
    return work


def times_within(deep):
    work = ("pop",)
    for _ in range(deep - 1):
        work = ("times", 1, work)
    return work


def many_works(many):
    """A row that has so many works, itself counted."""
    return ("row", (("pop",),) * (many - 1))


BAD_PLANS = [(value, -1) for value in OTHERS + ["", "abcd", (3, 2, (5, 4)), (3, 2, (5, 4), 6, 6), [3, 2, (5, 4), 6]]]
BAD_PLANS += [((room, 2, (5, 4), 6), 0) for room in
              [0, 10, -1, 11, 10 ** 30, True, False, None, "3", "", (3,), [3], ()]]
BAD_PLANS += [((3, many, (5,) * 5, 6), 1) for many in
              [0, 5, -1, 10 ** 30, True, False, None, "2", "", (2,), [2], ()]]
BAD_PLANS += [((3, 2, prices, 6), 2) for prices in
              [(), (5,), (5, 4, 3), [5, 4], [], "ab", "", None, True, False, 2, 54,
               (0, 4), (5, 0), (100, 4), (5, 100), (-1, 4), (5, -1), (True, 4), (5, True), (5, False), (None, 4),
               (5, None), ("5", 4), (5, "4"), ((5,), 4), (5, [4]), (5, 10 ** 30)]]
BAD_PLANS += [((3, 1, prices, 6), 2) for prices in [5, (), (5, 4), [5], (True,), (100,)]]
BAD_PLANS += [((3, 4, prices, 6), 2) for prices in [(1, 2, 3), (1, 2, 3, 4, 5), (1, 2, 3, 0), [1, 2, 3, 4]]]
BAD_PLANS += [((3, 2, (5, 4), pop), 3) for pop in
              [0, 100, -1, 101, 10 ** 30, True, False, None, "6", "", (6,), [6], ()]]
BAD_PLANS += [((0, 0, (), 0), 0), ((3, 0, (), 0), 1), ((3, 2, (), 0), 2), ((True, 2, [5, 4], 6), 0),
              ((3, True, [5], 6), 1), ((3, 2, [5, 4], True), 2), ([3], 0), (("3", 0, None, 6), 0)]
# A tuple of one is no plan at all.
BAD_PLANS = [(plan, -1 if not isinstance(plan, tuple) or len(plan) != 4 else part) for plan, part in BAD_PLANS]

BAD_WORKS = [(value, 0) for value in OTHERS + [
    "", "a", "pop", "-", ["pop"], ["push", "a"], ("pop", 1), ("pop", ()), ("pop", ("pop",)), ("Pop",), ("", ), ("a",),
    ("push",), ("push", "a", "b"), ("push", "c"), ("push", "d"), ("push", "e"), ("push", "A"), ("push", ""),
    ("push", "ab"), ("push", "-"), ("push", 0), ("push", True), ("push", None), ("push", ["a"]), ("push", ("a",)),
    ("push", []), ("push", ()), ("row",), ("row", None), ("row", []), ("row", [("pop",)]), ("row", "ab"), ("row", ""),
    ("row", 3), ("row", True), ("row", (), ()), ("row", ("pop",), ("pop",)), ("times",), ("times", 3),
    ("times", ("pop",)), ("times", ("pop",), 3), ("times", 3, ("pop",), ("pop",)), ("times", -1, ("pop",)),
    ("times", 10 ** 18 + 1, ("pop",)), ("times", 10 ** 30, ("pop",)), ("times", True, ("pop",)),
    ("times", False, ("pop",)), ("times", None, ("pop",)), ("times", "3", ("pop",)), ("times", (3,), ("pop",)),
    ("times", [3], ("pop",)), ("times", -1, None), ("times", True, ("push", "z")), (("pop",),), (("row",), ()),
    (None,), (True,), (0,), (["pop"],), ("push", "a", ()),
]]
BAD_WORKS += [(("row", inner), number) for inner, number in [
    (("pop",), 1), (("push", "a"), 1), ((None,), 1), ((True,), 1), (([],), 1), (((),), 1), ((["pop"],), 1),
    ((("pop",), None), 2), ((("pop",), ["pop"]), 2), ((("pop",), ("push", "c"), None), 2),
    ((("row", (("pop",), ("pop",))), None), 4), ((("row", (("pop",), None)), None), 3),
    ((("row", [("pop",)]), None), 1), ((("times", 2, ("pop",)), ("push", "c")), 3),
    ((("times", 2, ("push", "c")), ("push", "c")), 2), ((("times", -2, ("push", "c")), ("push", "c")), 1),
    ((("times", 2, ("row", (("pop",), ("pop",)))), ("row", ()), ("pop",), 7), 7),
]]
BAD_WORKS += [(("times", 3, inner), number) for inner, number in [
    (None, 1), (True, 1), ("pop", 1), ([], 1), ((), 1), (["pop"], 1), (("push", "c"), 1), (("row", (("pop",), 3)), 3),
    (("times", 3, None), 2), (("times", 10 ** 18 + 1, None), 1), ((("pop",),), 1),
]]
BAD_WORKS += [
    (many_works(61), 60), (many_works(62), 60), (many_works(200), 60),
    (("row", (("pop",),) * 59 + (None,)), 60), (("row", (("pop",),) * 58 + (None,) * 9), 59),
    (("row", (("pop",),) * 70 + (None,)), 60), (("times", 1, many_works(60)), 60),
    (("row", (many_works(30), many_works(30))), 60), (("row", (many_works(30), ("times", 1, many_works(29)))), 60),
    (("row", (None,) + (("pop",),) * 99), 1),
    (rows_within(9), 8), (rows_within(10), 8), (rows_within(30), 8), (rows_within(9, ("row", ())), 8),
    (times_within(9), 8), (times_within(12), 8), (rows_within(8, None), 7), (rows_within(9, None), 8),
    (("row", (rows_within(8),)), 8), (("row", (("pop",), ("pop",), rows_within(8))), 10),
    (("row", (rows_within(7), ("times", 2, rows_within(7)))), 15), (("row", (rows_within(8), None)), 8),
    (("row", (None, rows_within(8))), 1),
]

BAD_STACKS = OTHERS + ["c", "d", "e", "A", "-", " ", "ab-", "abc", "aaaa", "abab", "aaaac", "a" * 50, "a\n", "\u00e4",
                       ("a",), ("a", "b"), ["a", "b"], (("a",),)]

BAD_TRIPLES = OTHERS + [
    "", "a", (0,), (0, 3), (0, 3, "", ""), (0, 0, "", 0), [0, 3, ""], [0, 0, "a"], (0, 3, None), (0, 3, 0),
    (0, 3, ()), (0, 3, []), (0, 2, ("a",)), (0, 2, ["a"]), (0, 2, True), (0, 2, "c"), (0, 2, "-"), (0, 2, "A"),
    (0, 0, "ac"), (True, 1, ""), (False, 3, ""), (0, True, ""), (0, False, ""), (None, 3, ""), (0, None, ""),
    ("0", 3, ""), (0, "3", ""), ((0,), 3, ""), (0, [3], ""), (-1, 3, ""), (0, -1, ""), (4, 0, ""), (3, 0, ""),
    (1, 0, ""), (1, 0, "a"), (3, 0, "ab"), (0, 4, ""), (1, 3, ""), (2, 2, ""), (3, 1, ""), (0, 3, "a"), (0, 2, "ab"),
    (0, 1, "aba"), (0, 0, "abab"), (1, 1, "aaa"), (10 ** 30, 1, ""), (0, 10 ** 30, ""), (-1, 0, ""), (0, -1, "abab"),
    ("", 0, 0), (3, "", 0),
]

BAD_STEPS = OTHERS + ["c", "d", "A", "+", " ", "a b", "a-c", "--d--", "[a]2", "a\n", "ab-" * 50 + "c", ("a",),
                      ("a", "-"), ["a", "-"], "\u2212"]

BAD_COUNTS = [None, True, False, -1, -10 ** 30, 10 ** 18 + 1, 10 ** 30, "", "1", "a", (), (1,), [], [1]]

# The plan has 43 triples.
BAD_NUMBERS = [None, True, False, -1, -43, 43, 44, 10 ** 18, 10 ** 30, -10 ** 30, "", "1", "a", (), (1,), [], [1]]

BAD_SIGNS = OTHERS + ["", "c", "d", "e", "A", "-", " ", "ab", "aa", "ba", ("a",), ["b"], "\u00e4", "a\n"]

# No list is refused with 0, as is a list whose first pair can't be.
BAD_PAIRS = [(pairs, 0) for pairs in [None, True, False, 0, 1, -1, (), "", "ab", (("a", "a"),), ("a", "a"), ((), ())]]
BAD_PAIRS += [(good + [pair] + rest, len(good))
              for good in ([], [("", "")], [("a", "b"), ("aba", ""), ("a", "b")])
              for pair in [None, True, False, 0, 7, "", "a", "ab", (), [], ["a", "b"], ("a",), ("a", "b", "a"),
                           ("a", None), (None, "a"), ("a", True), (1, "a"), ("a", ("b",)), (["a"], "b"), ("c", "a"),
                           ("a", "c"), ("aaaa", "a"), ("a", "abab"), ("-", "a"), ("a", "A"), (("a", "b"),),
                           ("a" * 50, ""), ("", "a\n")]
              for rest in ([], [("a", "b")], [None, ("c", "a"), ["a", "b"]])]

# What a text writes is refused ahead of what its work can't be.
BAD_TEXTS = [(text, BadText, "place", place) for text, place in [
    ("c", 0), ("-d", 1), ("A", 0), (" ", 0), ("a b", 1), ("a\n", 1), ("]", 0), ("a]", 1), ("]1", 0), ("1", 0),
    ("a1", 1), ("[", 1), ("[a", 2), ("[a]", 3), ("[a]-", 3), ("[a]01", 4), ("[a]00", 4), ("[a]-1", 3),
    ("[a]1000000000000000001", 21), ("[a]9999999999999999999", 21), ("[a]10000000000000000000", 22), ("[[a]1", 5),
    ("[a]1]", 4), ("[2]2", 1), ("%", 0), ("a" * 100 + "[", 101), ("[" * 30, 30), ("[[[[[]1]1]1]1]", 14),
    ("a" * 70 + "c", 70),
]]
BAD_TEXTS += [(text, BadWork, "number", number) for text, number in [
    ("a" * 60, 60), ("-" * 200, 60), ("[[[[]1]1]1]1", 8), ("a[[[[a]1]1]1]0", 9), ("[]0" * 30, 60),
    ("[" + "b" * 58 + "]3", 60),
]]

# For each kind: what can be handed in, then what can't, each with its refusal and that one's value.
GOOD = {
    "plan": PLAN,
    "work": ("row", (("push", "a"), ("times", 2, ("pop",)))),
    "stack": "ab",
    "triple": (1, 1, "ab"),
    "steps": "ab--a",
    "count": 5,
    "number": 42,
    "sign": "b",
    "pairs": [("", "ab"), ("b", "bab"), ("", "ab")],
    "text": "a[b-]10",
}
BAD = {
    "plan": [(plan, BadPlan, "part", part) for plan, part in BAD_PLANS],
    "work": [(work, BadWork, "number", number) for work, number in BAD_WORKS],
    "stack": [(stack, BadStack, None, None) for stack in BAD_STACKS],
    "triple": [(triple, BadTriple, None, None) for triple in BAD_TRIPLES],
    "steps": [(steps, BadSteps, None, None) for steps in BAD_STEPS],
    "count": [(count, BadCount, None, None) for count in BAD_COUNTS],
    "number": [(number, BadCount, None, None) for number in BAD_NUMBERS],
    "sign": [(sign, BadSign, None, None) for sign in BAD_SIGNS],
    "pairs": [(pairs, BadPair, "number", number) for pairs, number in BAD_PAIRS],
    "text": BAD_TEXTS,
}
