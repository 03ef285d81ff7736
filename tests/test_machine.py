"""A machine, against a plain stack kept by the test, deed by deed."""

import random
import unittest

from sinkstack.errors import BadSign, BadStack, BadWork, SinkError
from sinkstack.machine import Machine
from tests import models
from tests.models import PLANS

WIDE = (9, 4, (3, 1, 2, 9), 5)
REFUSED = [("push", "e", BadSign), ("push", None, BadSign), ("push", "", BadSign), ("push", ("a",), BadSign),
           ("do", ("push", "e"), BadWork), ("do", None, BadWork), ("do", ("row", (("pop",), 3)), BadWork)]


class Plain:
    """What a machine must tell, kept in lists, step by step."""

    def __init__(self, plan, stack):
        self.plan = plan
        self.stacks = [stack]
        self.steps = []

    def deed(self, steps):
        self.stacks.append(models.walked(self.plan, self.stacks[-1], steps))
        self.steps.append(steps)

    def back(self):
        if not self.steps:
            return False
        self.stacks.pop()
        self.steps.pop()
        return True

    def pushed(self, sign):
        before = self.stacks[-1]
        self.deed(sign)
        return before[0] if len(before) == self.plan[0] else None

    def popped(self):
        before = self.stacks[-1]
        self.deed("-")
        return before[-1] if before else None


class Machines(unittest.TestCase):
    def check_state(self, machine, plain):
        """Check all that a machine tells of itself, twice."""
        plan = plain.plan
        whole = "".join(plain.steps)
        for _ in range(2):
            self.assertEqual(machine.stack(), plain.stacks[-1])
            self.assertEqual(machine.spent(), models.price(plan, whole))
            self.assertEqual(machine.deeds(), len(plain.steps))
            triple = machine.triple()
            for stack in models.stacks(plan)[::3]:
                self.assertEqual(models.moved(triple, stack), models.walked(plan, stack, whole))
            self.assertIn(triple, models.triples(plan))

    def random_work(self, plan, chance, deep=3):
        """A work by chance."""
        kind = chance.choice(["push", "pop"] + ["row", "times"] * (deep > 1))
        if kind == "push":
            return ("push", chance.choice(models.signs(plan)))
        if kind == "pop":
            return ("pop",)
        if kind == "row":
            return ("row", tuple(self.random_work(plan, chance, deep - 1) for _ in range(chance.randrange(4))))
        return ("times", chance.randrange(4), self.random_work(plan, chance, deep - 1))

    def random_deed(self, machine, plain, chance):
        """Do some deed to both, perhaps take one back, and compare what is told."""
        kind = chance.choice(["do", "push", "push", "pop", "pop", "back", "refused"])
        if kind == "do":
            work = self.random_work(plain.plan, chance)
            plain.deed(models.steps_of(work))
            self.assertEqual(machine.do(work), plain.stacks[-1])
        elif kind == "push":
            sign = chance.choice(models.signs(plain.plan))
            self.assertEqual(machine.push(sign), plain.pushed(sign))
        elif kind == "pop":
            self.assertEqual(machine.pop(), plain.popped())
        elif kind == "back":
            self.assertIs(machine.back(), plain.back())
        else:
            name, wrong, error = chance.choice(REFUSED)
            with self.assertRaises(error):
                getattr(machine, name)(wrong)

    def test_deeds_by_chance(self):
        chance = random.Random(51)
        for plan in PLANS + [(5, 2, (8, 7), 3)]:
            for _ in range(6):
                stack = chance.choice(models.stacks(plan))
                machine, plain = Machine(plan, stack), Plain(plan, stack)
                self.check_state(machine, plain)
                for _ in range(30):
                    self.random_deed(machine, plain, chance)
                    self.check_state(machine, plain)
                while plain.back():
                    self.assertIs(machine.back(), True)
                    self.check_state(machine, plain)
                for _ in range(3):
                    self.assertIs(machine.back(), False)
                    self.check_state(machine, plain)

    def test_two_machines_at_once(self):
        chance = random.Random(52)
        plan, other_plan = (3, 2, (5, 4), 6), (2, 3, (1, 2, 3), 4)
        both = [(Machine(plan, "ab"), Plain(plan, "ab")), (Machine(other_plan, ""), Plain(other_plan, "")),
                (Machine(plan, "ab"), Plain(plan, "ab"))]
        for _ in range(120):
            self.random_deed(*chance.choice(both), chance)
            for machine, plain in both:
                self.check_state(machine, plain)

    def test_a_new_machine(self):
        machine = Machine(WIDE, "abcd")
        self.assertEqual((machine.stack(), machine.spent(), machine.triple(), machine.deeds()),
                         ("abcd", 0, (0, 9, ""), 0))
        self.assertIs(machine.back(), False)

    def test_pushes_on_a_full_stack(self):
        machine = Machine((3, 2, (5, 4), 6), "ba")
        self.assertEqual([machine.push(sign) for sign in "aabab"], [None, "b", "a", "a", "a"])
        self.assertEqual((machine.stack(), machine.spent(), machine.deeds()), ("bab", 23, 5))
        self.assertEqual(machine.triple(), (0, 0, "bab"))
        machine = Machine((1, 2, (5, 4), 6), "")
        self.assertEqual([machine.push(sign) for sign in "aba"], [None, "a", "b"])

    def test_pops_of_an_empty_stack_are_deeds(self):
        machine = Machine((3, 2, (5, 4), 6), "ba")
        self.assertEqual([machine.pop() for _ in range(4)], ["a", "b", None, None])
        self.assertEqual((machine.stack(), machine.spent(), machine.deeds()), ("", 24, 4))
        self.assertEqual(machine.triple(), (0, 0, ""))
        self.assertEqual([machine.back() for _ in range(3)], [True, True, True])
        self.assertEqual((machine.stack(), machine.spent(), machine.deeds(), machine.triple()),
                         ("b", 6, 1, (1, 2, "")))

    def test_a_thing_that_fell_out_comes_back(self):
        machine = Machine((2, 3, (5, 4, 3), 6), "ab")
        self.assertEqual(machine.push("c"), "a")
        self.assertIs(machine.back(), True)
        self.assertEqual(machine.stack(), "ab")
        self.assertEqual(machine.do(("row", (("push", "c"), ("push", "c"), ("pop",)))), "c")
        self.assertIs(machine.back(), True)
        self.assertEqual(machine.stack(), "ab")
        self.assertIs(machine.back(), False)

    def test_a_work_that_does_nothing_is_a_deed(self):
        machine = Machine((2, 1, (5,), 6), "a")
        self.assertEqual(machine.do(("row", ())), "a")
        self.assertEqual(machine.do(("times", 0, ("pop",))), "a")
        self.assertEqual((machine.deeds(), machine.spent(), machine.triple()), (2, 0, (0, 2, "")))
        self.assertEqual([machine.back() for _ in range(3)], [True, True, False])

    def test_works_done_very_often(self):
        often = 10 ** 18
        machine = Machine(WIDE, "dd")
        self.assertEqual(machine.do(("times", often, models.row_of("ab"))), "babababab")
        self.assertEqual(machine.spent(), 4 * often)
        self.assertEqual(machine.do(("times", often, ("times", often, models.row_of("-c")))), "babababac")
        self.assertEqual(machine.spent(), 4 * often + 7 * often * often)
        self.assertEqual(machine.triple(), (0, 0, "babababac"))
        self.assertEqual(machine.do(("times", often, ("pop",))), "")
        self.assertEqual(machine.deeds(), 3)
        self.assertEqual([machine.back() for _ in range(4)], [True, True, True, False])
        self.assertEqual((machine.stack(), machine.spent(), machine.triple()), ("dd", 0, (0, 9, "")))

    def test_refused_calls_change_nothing(self):
        machine = Machine((2, 2, (5, 4), 6), "a")
        machine.push("b")
        machine.back()
        machine.push("b")
        for name, wrong, error in REFUSED + [("push", "c", BadSign), ("push", "ab", BadSign), ("push", "-", BadSign)]:
            with self.assertRaises(error):
                getattr(machine, name)(wrong)
            self.assertEqual((machine.stack(), machine.spent(), machine.triple(), machine.deeds()),
                             ("ab", 4, (0, 1, "b"), 1))
        self.assertIs(machine.back(), True)
        self.assertIs(machine.back(), False)

    def test_a_refused_machine_is_none(self):
        with self.assertRaises(BadStack):
            Machine((2, 2, (5, 4), 6), "aba")
        with self.assertRaises(SinkError):
            Machine([2, 2, (5, 4), 6], "a")

    def test_a_very_long_run(self):
        machine = Machine((9, 2, (1, 2), 3), "")
        for turn in range(20000):
            machine.push("ab"[turn % 2])
        self.assertEqual((machine.stack(), machine.spent(), machine.deeds()), ("babababab", 30000, 20000))
        while machine.back():
            pass
        self.assertEqual((machine.stack(), machine.spent(), machine.deeds()), ("", 0, 0))


if __name__ == "__main__":
    unittest.main()
