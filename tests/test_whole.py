"""What is promised over the whole program: nothing kept, nothing changed, the same told again."""

import copy
import unittest

from sinkstack import befores, counting, notes, prices, triples
from sinkstack.errors import SinkError
from sinkstack.machine import Machine
from tests import models, test_refusals
from tests.wrong import BAD, GOOD

OFTEN = 10 ** 18
WIDE = (9, 4, (3, 1, 2, 9), 5)


def parts(value):
    """A value and all within it."""
    found = [value]
    for each in found:
        if isinstance(each, (tuple, list)):
            found.extend(each)
    return found


def state(machine):
    return (machine.stack(), machine.spent(), machine.triple(), machine.deeds())


class Whole(unittest.TestCase):
    def told_functions(self):
        """The functions that tell something but a machine, with what can be handed in."""
        for function, kinds in test_refusals.FUNCTIONS:
            if function is not Machine:
                yield function, [GOOD[kind] for kind in kinds], kinds

    def test_each_call_tells_the_same_again_and_changes_nothing(self):
        for function, handed, _ in self.told_functions():
            before = copy.deepcopy(handed)
            first = repr(function(*handed))
            for _ in range(3):
                self.assertEqual(repr(function(*handed)), first)
            self.assertEqual(repr(handed), repr(before))

    def test_refused_calls_in_between_change_nothing(self):
        for function, handed, kinds in self.told_functions():
            first = function(*handed)
            for at, kind in enumerate(kinds):
                for wrong in BAD[kind][::5]:
                    with self.assertRaises(SinkError):
                        function(*handed[:at], wrong[0], *handed[at + 1:])
            self.assertEqual(function(*handed), first)

    def test_nothing_that_can_be_changed_is_told(self):
        for function, handed, _ in self.told_functions():
            for part in parts(function(*handed)):
                self.assertIn(type(part), (tuple, str, int, bool, type(None)))
        machine = Machine(WIDE, "abc")
        told = [machine.do(GOOD["work"]), machine.push("a"), machine.pop(), machine.stack(), machine.spent(),
                machine.triple(), machine.deeds(), machine.back()]
        for part in parts(tuple(told)):
            self.assertIn(type(part), (tuple, str, int, bool, type(None)))

    def test_a_refused_list_changed_later(self):
        prices_list = [5, 4]
        with self.assertRaises(SinkError):
            Machine((3, 2, prices_list, 6), "ab")
        machine = Machine((3, 2, tuple(prices_list), 6), "ab")
        prices_list[0] = 99
        machine.push("a")
        self.assertEqual(state(machine), ("aba", 5, (0, 2, "a"), 1))

    def test_a_list_that_was_handed_in_may_be_changed(self):
        plan = (3, 2, (5, 4), 6)
        pairs = [("aab", "ab"), ("", "b")]
        told = befores.fitting(plan, pairs)
        pairs[0] = ("a", "a")
        self.assertEqual(befores.fitting(plan, pairs), (0, None))
        self.assertEqual(befores.fitting(plan, [("aab", "ab"), ("", "b")]), told)
        inner = [("pop",)]
        with self.assertRaises(SinkError):
            Machine(plan, "ab").do(("row", inner))
        self.assertEqual(inner, [("pop",)])

    def test_machines_know_nothing_of_each_other(self):
        plan = (3, 2, (5, 4), 6)
        one, other = Machine(plan, "ab"), Machine(plan, "ab")
        one.push("a")
        one.do(("times", OFTEN, ("pop",)))
        self.assertEqual(state(other), ("ab", 0, (0, 3, ""), 0))
        self.assertIs(other.back(), False)
        other.pop()
        self.assertEqual(state(one), ("", 5 + 6 * OFTEN, (0, 0, ""), 2))
        self.assertIs(other.back(), True)
        self.assertEqual(one.deeds(), 2)
        self.assertEqual(state(Machine(plan, "ab")), ("ab", 0, (0, 3, ""), 0))

    def test_no_work_is_done_step_by_step(self):
        work = ("times", OFTEN, ("times", OFTEN, ("row", (("push", "a"), ("push", "b"), ("pop",), ("push", "d")))))
        self.assertEqual(triples.told(WIDE, work), (0, 0, "dadadadad"))
        self.assertEqual(triples.run(WIDE, work, "c"), "dadadadad")
        self.assertTrue(triples.alike(WIDE, work, ("times", 7, work)))
        self.assertIsNone(triples.parting(WIDE, work, ("times", 7, work)))
        self.assertEqual(triples.parting(WIDE, work, ("times", 0, work)), "")
        self.assertEqual(triples.powered(WIDE, (0, 8, "c"), OFTEN), (0, 0, "c" * 9))
        self.assertEqual(prices.cost(WIDE, work), 18 * OFTEN * OFTEN)
        self.assertEqual(Machine(WIDE, "").do(work), "dadadadad")
        text = f"[[ab-d]{OFTEN}]{OFTEN}"
        self.assertEqual(notes.written(WIDE, work), text)
        self.assertEqual(triples.told(WIDE, notes.read(WIDE, text)), (0, 0, "dadadadad"))

    def test_all_is_of_one_piece(self):
        for plan in models.PLANS:
            for number in range(0, befores.count(plan), 3):
                triple = counting.triple_at(plan, number)
                self.assertEqual(counting.number_of(plan, triple), number)
                steps = prices.cheapest(plan, triple)[1]
                work = notes.read(plan, steps)
                self.assertEqual(triples.told(plan, work), triple)
                self.assertEqual(notes.written(plan, work), steps)
                for stack in models.stacks(plan)[::4]:
                    machine = Machine(plan, stack)
                    behind = machine.do(work)
                    self.assertEqual(machine.triple(), triple)
                    self.assertEqual(machine.spent(), prices.cheapest(plan, triple)[0])
                    self.assertGreaterEqual(befores.befores(plan, triple, behind)[0], 1)
                    self.assertGreaterEqual(befores.fitting(plan, [(stack, behind)])[0], 1)


if __name__ == "__main__":
    unittest.main()
