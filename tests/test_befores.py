"""From which stacks one comes, against all stacks gone through one by one."""

import random
import unittest

from sinkstack.befores import befores
from sinkstack.triples import done
from tests import models
from tests.models import PLANS

WIDE = (9, 4, (3, 1, 2, 9), 5)


def gathered(plan, triple):
    """For each stack that a triple leads to, (how many lead there, the least of them)."""
    found = {}
    for stack in models.stacks(plan):
        behind = models.moved(triple, stack)
        many, least = found.get(behind, (0, stack))
        found[behind] = (many + 1, least)
    return found


def random_triple(plan, chance):
    """A triple of the plan by chance, of any shape."""
    room = plan[0]
    kept = chance.randrange(room + 1)
    gone = chance.randrange(room - kept + 1) if kept else 0
    size = chance.randrange(room - kept + 1)
    return (gone, kept, "".join(chance.choice(models.signs(plan)) for _ in range(size)))


class Befores(unittest.TestCase):
    def test_all_triples_and_stacks_of_small_plans(self):
        for plan in PLANS + [(4, 1, (1,), 1), (5, 1, (3,), 2), (3, 4, (1, 1, 1, 1), 1)]:
            stacks = models.stacks(plan)
            for triple in models.triples(plan):
                found = gathered(plan, triple)
                for stack in stacks:
                    self.assertEqual(befores(plan, triple, stack), found.get(stack, (0, None)))

    def test_all_stacks_of_some_triples_of_wider_plans(self):
        chance = random.Random(21)
        for plan in [(9, 1, (1,), 1), (9, 2, (1, 1), 1), (6, 3, (1, 1, 1), 1), (5, 4, (1, 1, 1, 1), 1)]:
            stacks = models.stacks(plan)
            for _ in range(25):
                triple = random_triple(plan, chance)
                found = gathered(plan, triple)
                for stack in stacks:
                    self.assertEqual(befores(plan, triple, stack), found.get(stack, (0, None)))

    def test_all_stacks_gathered_on_the_widest_plan(self):
        for triple in [(2, 4, "dab"), (3, 6, ""), (0, 0, "abcdabcda")]:
            found = gathered(WIDE, triple)
            for stack, told in list(found.items())[:3000]:
                self.assertEqual(befores(WIDE, triple, stack), told)
            self.assertEqual(sum(befores(WIDE, triple, stack)[0] for stack in found), (4 ** 10 - 1) // 3)

    def test_stacks_of_the_widest_plan_that_surely_come(self):
        chance = random.Random(22)
        for _ in range(2000):
            triple = random_triple(WIDE, chance)
            stack = "".join(chance.choice("abcd") for _ in range(chance.randrange(10)))
            behind = models.moved(triple, stack)
            many, least = befores(WIDE, triple, behind)
            self.assertGreaterEqual(many, 1)
            self.assertEqual(models.moved(triple, least), behind)
            self.assertLessEqual((len(least), least), (len(stack), stack))
            self.assertEqual(done(WIDE, triple, least), behind)

    def test_told_befores(self):
        plan = (3, 2, (5, 4), 6)
        self.assertEqual(befores(plan, (0, 3, ""), "ab"), (1, "ab"))
        self.assertEqual(befores(plan, (0, 3, ""), ""), (1, ""))
        self.assertEqual(befores(plan, (1, 2, ""), ""), (3, ""))
        self.assertEqual(befores(plan, (1, 2, ""), "b"), (2, "ba"))
        self.assertEqual(befores(plan, (1, 1, ""), "b"), (6, "ba"))
        self.assertEqual(befores(plan, (0, 2, "b"), "aab"), (3, "aa"))
        self.assertEqual(befores(plan, (0, 0, "ab"), "ab"), (15, ""))

    def test_none_becomes_it(self):
        plan = (3, 2, (5, 4), 6)
        for triple, stack in [((0, 2, "b"), "aa"), ((0, 2, "b"), ""), ((0, 0, "ab"), "b"), ((0, 0, "ab"), "bab"),
                              ((1, 2, ""), "aaa"), ((0, 0, ""), "a"), ((1, 1, "aa"), "a")]:
            self.assertEqual(befores(plan, triple, stack), (0, None))

    def test_edges_of_the_widest_plan(self):
        whole = (4 ** 10 - 1) // 3
        self.assertEqual(befores(WIDE, (0, 0, ""), ""), (whole, ""))
        self.assertEqual(befores(WIDE, (0, 0, "d" * 9), "d" * 9), (whole, ""))
        self.assertEqual(befores(WIDE, (0, 9, ""), "d" * 9), (1, "d" * 9))
        self.assertEqual(befores(WIDE, (8, 1, ""), "d"), (4 ** 8, "daaaaaaaa"))
        self.assertEqual(befores(WIDE, (8, 1, ""), ""), ((4 ** 9 - 1) // 3, ""))
        self.assertEqual(befores(WIDE, (0, 1, "b"), "cb"), ((4 ** 9 - 1) // 3, "c"))
        self.assertEqual(befores(WIDE, (0, 1, "b"), "b"), (1, ""))
        self.assertEqual(befores(WIDE, (0, 1, "b"), "ccb"), (0, None))


if __name__ == "__main__":
    unittest.main()
