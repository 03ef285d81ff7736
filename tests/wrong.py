"""Values that can't be handed in, and for each kind what is refused how."""

from sinkstack.errors import BadCount, BadPlan, BadStack, BadSteps, BadTriple, BadWork

PLAN = (3, 2, (5, 4), 6)
OTHERS = [None, True, False, 0, 1, -1, 10 ** 30, [], (), ["a"], [1, 2]]


def rows_within(deep, work=("pop",)):
    """A work so many works deep."""
    for _ in range(deep - 1):
        work = ("row", (work,))
    return work


def times_within(deep):
    work = ("pop",)
    for _ in range(deep - 1):
        work = ("times", 1, work)
    return work


def many_works(many):
    """A row that has so many works, itself counted."""
    return ("row", (("pop",),) * (many - 1))


BAD_PLANS = [(value, -1) for value in OTHERS + ["", "abcd", (3, 2, (5, 4)), (3, 2, (5, 4), 6, 6), [3, 2, (5, 4), 6]]]
BAD_PLANS += [((room, 2, (5, 4), 6), 0) for room in
              [0, 10, -1, 11, 10 ** 30, True, False, None, "3", "", (3,), [3], ()]]
BAD_PLANS += [((3, many, (5,) * 5, 6), 1) for many in
              [0, 5, -1, 10 ** 30, True, False, None, "2", "", (2,), [2], ()]]
BAD_PLANS += [((3, 2, prices, 6), 2) for prices in
              [(), (5,), (5, 4, 3), [5, 4], [], "ab", "", None, True, False, 2, 54,
               (0, 4), (5, 0), (100, 4), (5, 100), (-1, 4), (5, -1), (True, 4), (5, True), (5, False), (None, 4),
               (5, None), ("5", 4), (5, "4"), ((5,), 4), (5, [4]), (5, 10 ** 30)]]
BAD_PLANS += [((3, 1, prices, 6), 2) for prices in [5, (), (5, 4), [5], (True,), (100,)]]
BAD_PLANS += [((3, 4, prices, 6), 2) for prices in [(1, 2, 3), (1, 2, 3, 4, 5), (1, 2, 3, 0), [1, 2, 3, 4]]]
BAD_PLANS += [((3, 2, (5, 4), pop), 3) for pop in
              [0, 100, -1, 101, 10 ** 30, True, False, None, "6", "", (6,), [6], ()]]
BAD_PLANS += [((0, 0, (), 0), 0), ((3, 0, (), 0), 1), ((3, 2, (), 0), 2), ((True, 2, [5, 4], 6), 0),
              ((3, True, [5], 6), 1), ((3, 2, [5, 4], True), 2), ([3], 0), (("3", 0, None, 6), 0)]
# A tuple of one is no plan at all.
BAD_PLANS = [(plan, -1 if not isinstance(plan, tuple) or len(plan) != 4 else part) for plan, part in BAD_PLANS]

BAD_WORKS = [(value, 0) for value in OTHERS + [
    "", "a", "pop", "-", ["pop"], ["push", "a"], ("pop", 1), ("pop", ()), ("pop", ("pop",)), ("Pop",), ("", ), ("a",),
    ("push",), ("push", "a", "b"), ("push", "c"), ("push", "d"), ("push", "e"), ("push", "A"), ("push", ""),
    ("push", "ab"), ("push", "-"), ("push", 0), ("push", True), ("push", None), ("push", ["a"]), ("push", ("a",)),
    ("push", []), ("push", ()), ("row",), ("row", None), ("row", []), ("row", [("pop",)]), ("row", "ab"), ("row", ""),
    ("row", 3), ("row", True), ("row", (), ()), ("row", ("pop",), ("pop",)), ("times",), ("times", 3),
    ("times", ("pop",)), ("times", ("pop",), 3), ("times", 3, ("pop",), ("pop",)), ("times", -1, ("pop",)),
    ("times", 10 ** 18 + 1, ("pop",)), ("times", 10 ** 30, ("pop",)), ("times", True, ("pop",)),
    ("times", False, ("pop",)), ("times", None, ("pop",)), ("times", "3", ("pop",)), ("times", (3,), ("pop",)),
    ("times", [3], ("pop",)), ("times", -1, None), ("times", True, ("push", "z")), (("pop",),), (("row",), ()),
    (None,), (True,), (0,), (["pop"],), ("push", "a", ()),
]]
BAD_WORKS += [(("row", inner), number) for inner, number in [
    (("pop",), 1), (("push", "a"), 1), ((None,), 1), ((True,), 1), (([],), 1), (((),), 1), ((["pop"],), 1),
    ((("pop",), None), 2), ((("pop",), ["pop"]), 2), ((("pop",), ("push", "c"), None), 2),
    ((("row", (("pop",), ("pop",))), None), 4), ((("row", (("pop",), None)), None), 3),
    ((("row", [("pop",)]), None), 1), ((("times", 2, ("pop",)), ("push", "c")), 3),
    ((("times", 2, ("push", "c")), ("push", "c")), 2), ((("times", -2, ("push", "c")), ("push", "c")), 1),
    ((("times", 2, ("row", (("pop",), ("pop",)))), ("row", ()), ("pop",), 7), 7),
]]
BAD_WORKS += [(("times", 3, inner), number) for inner, number in [
    (None, 1), (True, 1), ("pop", 1), ([], 1), ((), 1), (["pop"], 1), (("push", "c"), 1), (("row", (("pop",), 3)), 3),
    (("times", 3, None), 2), (("times", 10 ** 18 + 1, None), 1), ((("pop",),), 1),
]]
BAD_WORKS += [
    (many_works(61), 60), (many_works(62), 60), (many_works(200), 60),
    (("row", (("pop",),) * 59 + (None,)), 60), (("row", (("pop",),) * 58 + (None,) * 9), 59),
    (("row", (("pop",),) * 70 + (None,)), 60), (("times", 1, many_works(60)), 60),
    (("row", (many_works(30), many_works(30))), 60), (("row", (many_works(30), ("times", 1, many_works(29)))), 60),
    (("row", (None,) + (("pop",),) * 99), 1),
    (rows_within(9), 8), (rows_within(10), 8), (rows_within(30), 8), (rows_within(9, ("row", ())), 8),
    (times_within(9), 8), (times_within(12), 8), (rows_within(8, None), 7), (rows_within(9, None), 8),
    (("row", (rows_within(8),)), 8), (("row", (("pop",), ("pop",), rows_within(8))), 10),
    (("row", (rows_within(7), ("times", 2, rows_within(7)))), 15), (("row", (rows_within(8), None)), 8),
    (("row", (None, rows_within(8))), 1),
]

BAD_STACKS = OTHERS + ["c", "d", "e", "A", "-", " ", "ab-", "abc", "aaaa", "abab", "aaaac", "a" * 50, "a\n", "\u00e4",
                       ("a",), ("a", "b"), ["a", "b"], (("a",),)]

BAD_TRIPLES = OTHERS + [
    "", "a", (0,), (0, 3), (0, 3, "", ""), (0, 0, "", 0), [0, 3, ""], [0, 0, "a"], (0, 3, None), (0, 3, 0),
    (0, 3, ()), (0, 3, []), (0, 2, ("a",)), (0, 2, ["a"]), (0, 2, True), (0, 2, "c"), (0, 2, "-"), (0, 2, "A"),
    (0, 0, "ac"), (True, 1, ""), (False, 3, ""), (0, True, ""), (0, False, ""), (None, 3, ""), (0, None, ""),
    ("0", 3, ""), (0, "3", ""), ((0,), 3, ""), (0, [3], ""), (-1, 3, ""), (0, -1, ""), (4, 0, ""), (3, 0, ""),
    (1, 0, ""), (1, 0, "a"), (3, 0, "ab"), (0, 4, ""), (1, 3, ""), (2, 2, ""), (3, 1, ""), (0, 3, "a"), (0, 2, "ab"),
    (0, 1, "aba"), (0, 0, "abab"), (1, 1, "aaa"), (10 ** 30, 1, ""), (0, 10 ** 30, ""), (-1, 0, ""), (0, -1, "abab"),
    ("", 0, 0), (3, "", 0),
]

BAD_STEPS = OTHERS + ["c", "d", "A", "+", " ", "a b", "a-c", "--d--", "[a]2", "a\n", "ab-" * 50 + "c", ("a",),
                      ("a", "-"), ["a", "-"], "\u2212"]

BAD_COUNTS = [None, True, False, -1, -10 ** 30, 10 ** 18 + 1, 10 ** 30, "", "1", "a", (), (1,), [], [1]]

# For each kind: what can be handed in, then what can't, each with its refusal and that one's value.
GOOD = {
    "plan": PLAN,
    "work": ("row", (("push", "a"), ("times", 2, ("pop",)))),
    "stack": "ab",
    "triple": (1, 1, "ab"),
    "steps": "ab--a",
    "count": 5,
}
BAD = {
    "plan": [(plan, BadPlan, "part", part) for plan, part in BAD_PLANS],
    "work": [(work, BadWork, "number", number) for work, number in BAD_WORKS],
    "stack": [(stack, BadStack, None, None) for stack in BAD_STACKS],
    "triple": [(triple, BadTriple, None, None) for triple in BAD_TRIPLES],
    "steps": [(steps, BadSteps, None, None) for steps in BAD_STEPS],
    "count": [(count, BadCount, None, None) for count in BAD_COUNTS],
}
