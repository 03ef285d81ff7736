"""What each function refuses, what it refuses first, and that it changes nothing."""

import copy
import unittest

from sinkstack import befores, counting, notes, prices, triples
from sinkstack.errors import BadPair, BadWork, SinkError
from sinkstack.machine import Machine
from tests.wrong import BAD, GOOD, PLAN, many_works, rows_within, times_within


def machine_done(plan, stack, work):
    return Machine(plan, stack).do(work)


def machine_pushed(plan, stack, sign):
    return Machine(plan, stack).push(sign)


FUNCTIONS = [
    (triples.told, ("plan", "work")),
    (triples.told_of_steps, ("plan", "steps")),
    (triples.joined, ("plan", "triple", "triple")),
    (triples.powered, ("plan", "triple", "count")),
    (triples.done, ("plan", "triple", "stack")),
    (triples.run, ("plan", "work", "stack")),
    (triples.alike, ("plan", "work", "work")),
    (triples.parting, ("plan", "work", "work")),
    (prices.cost, ("plan", "work")),
    (prices.cheapest, ("plan", "triple")),
    (prices.fewest, ("plan", "triple")),
    (prices.judged, ("plan", "triple", "steps")),
    (prices.fillers, ("plan", "triple")),
    (befores.befores, ("plan", "triple", "stack")),
    (befores.fitting, ("plan", "pairs")),
    (befores.count, ("plan",)),
    (counting.triple_at, ("plan", "number")),
    (counting.number_of, ("plan", "triple")),
    (Machine, ("plan", "stack")),
    (machine_done, ("plan", "stack", "work")),
    (machine_pushed, ("plan", "stack", "sign")),
    (notes.written, ("plan", "work")),
    (notes.read, ("plan", "text")),
]


class Refusals(unittest.TestCase):
    def refused(self, function, handed, kind, name, value):
        """Check that the call is refused so, that what was handed in stays, and that it is refused again."""
        before = copy.deepcopy(handed)
        for _ in range(2):
            with self.assertRaises(SinkError) as caught:
                function(*handed)
            self.assertIs(type(caught.exception), kind)
            if name is not None:
                told = getattr(caught.exception, name)
                self.assertIs(type(told), int)
                self.assertEqual(told, value)
        self.assertEqual(repr(handed), repr(before))

    def test_each_place_refuses_what_can_not_be(self):
        for function, kinds in FUNCTIONS:
            for at, kind in enumerate(kinds):
                for wrong, error, name, value in BAD[kind]:
                    handed = [GOOD[each] for each in kinds]
                    handed[at] = wrong
                    with self.subTest(function=function.__name__, handed=handed):
                        self.refused(function, handed, error, name, value)

    def test_what_is_handed_in_first_is_refused_first(self):
        for function, kinds in FUNCTIONS:
            for at, kind in enumerate(kinds):
                for wrong, error, name, value in BAD[kind]:
                    for step in (0, 1, 2, 7):
                        later = [BAD[each][step][0] for each in kinds[at + 1:]]
                        handed = [GOOD[each] for each in kinds[:at]] + [wrong] + later
                        with self.subTest(function=function.__name__, handed=handed):
                            self.refused(function, handed, error, name, value)

    def test_of_two_works_the_first_is_refused_first(self):
        for function in (triples.alike, triples.parting):
            self.refused(function, [PLAN, ("row", (("pop",), 1)), ("row", (1,))], BadWork, "number", 2)
            self.refused(function, [PLAN, ("row", (1,)), ("row", (("pop",), 1))], BadWork, "number", 1)

    def test_what_is_good_is_taken(self):
        for function, kinds in FUNCTIONS:
            function(*[GOOD[kind] for kind in kinds])

    def test_of_several_pairs_the_first_is_refused_first(self):
        self.refused(befores.fitting, [PLAN, [("a", "a"), ("a", "c"), ("c", "a"), None]], BadPair, "number", 1)
        self.refused(befores.fitting, [PLAN, [("a", "a")] * 500 + [["a", "a"]]], BadPair, "number", 500)
        # That no triple fits the first pairs does not take a later one.
        self.refused(befores.fitting, [PLAN, [("a", "a"), ("a", "b"), ("a", "c")]], BadPair, "number", 2)

    def test_edges_are_taken(self):
        for room in (1, 9):
            for many in (1, 4):
                for price in (1, 99):
                    plan = (room, many, (price,) * many, price)
                    self.assertEqual(triples.told(plan, ("row", ())), (0, room, ""))
                    sign = "abcd"[many - 1]
                    self.assertEqual(triples.told_of_steps(plan, sign * 9), (0, 0, sign * room))
                    self.assertEqual(triples.done(plan, (0, room, ""), sign * room), sign * room)
                    self.assertEqual(prices.cost(plan, ("push", sign)), price)

    def test_a_sign_beyond_the_plan_is_refused(self):
        for many in (1, 2, 3):
            plan = (9, many, (1,) * many, 1)
            sign = "abcd"[many]
            for function, wrong in [(triples.told, ("push", sign)), (triples.told_of_steps, sign),
                                    (prices.cheapest, (0, 0, sign))]:
                with self.assertRaises(SinkError):
                    function(plan, wrong)
            with self.assertRaises(SinkError):
                triples.done(plan, (0, 9, ""), sign)

    def test_sixty_works_and_eight_deep_are_taken(self):
        self.assertEqual(prices.cost(PLAN, many_works(60)), 59 * 6)
        self.assertEqual(prices.cost(PLAN, ("times", 2, many_works(59))), 2 * 58 * 6)
        self.assertEqual(triples.told(PLAN, many_works(60)), (0, 0, ""))
        for work in (rows_within(8), times_within(8), ("row", (rows_within(7), rows_within(7), rows_within(7)))):
            pops = 3 if work[0] == "row" and len(work[1]) == 3 else 1
            self.assertEqual(prices.cost(PLAN, work), 6 * pops)
            self.assertEqual(triples.told(PLAN, work), (0, 0, "") if pops == 3 else (1, 2, ""))
        self.assertEqual(triples.told(PLAN, rows_within(8, ("row", ()))), (0, 3, ""))

    def test_sixty_works_eight_deep_in_many_rows_are_taken(self):
        work = ("row", (rows_within(7),) * 8 + (("row", ()), ("pop",), ("push", "b")))
        self.assertEqual(prices.cost(PLAN, work), 6 * 9 + 4)
        with self.assertRaises(SinkError) as caught:
            triples.told(PLAN, ("row", work[1] + (("pop",),)))
        self.assertEqual(caught.exception.number, 60)

    def test_a_work_far_too_deep_is_refused_too(self):
        for work in (rows_within(5000), times_within(5000)):
            with self.assertRaises(BadWork) as caught:
                triples.told(PLAN, work)
            self.assertEqual(caught.exception.number, 8)

    def test_counts_at_the_edge_are_taken(self):
        for many in (0, 1, 10 ** 18):
            self.assertEqual(triples.powered(PLAN, (0, 3, ""), many), (0, 3, ""))
            self.assertEqual(prices.cost(PLAN, ("times", many, ("pop",))), many * 6)


if __name__ == "__main__":
    unittest.main()
