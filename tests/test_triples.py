"""Triples of works and steps, against steps done one by one over all stacks."""

import copy
import random
import unittest

from sinkstack.triples import alike, done, joined, parting, powered, run, told, told_of_steps
from tests import models
from tests.models import PLANS

WIDE = (9, 4, (3, 1, 2, 9), 5)


def works_of(plan, chance, many, deep):
    """So many works of some shape, not more than a few hundred steps each."""
    def one(left):
        kind = chance.choice(["push", "push", "pop", "pop"] + ["row", "times"] * (left > 1))
        if kind == "push":
            return ("push", chance.choice(models.signs(plan)))
        if kind == "pop":
            return ("pop",)
        if kind == "row":
            return ("row", tuple(one(left - 1) for _ in range(chance.randrange(4))))
        return ("times", chance.choice([0, 1, 2, 3, 5]), one(left - 1))

    return [one(deep) for _ in range(many)]


class Told(unittest.TestCase):
    def check_triple(self, plan, triple):
        """Check the bounds that the document gives a triple."""
        gone, kept, laid = triple
        self.assertGreaterEqual(gone, 0)
        self.assertGreaterEqual(kept, 0)
        self.assertLessEqual(gone + kept, plan[0])
        self.assertLessEqual(len(laid) + kept, plan[0])
        self.assertTrue(set(laid) <= set(models.signs(plan)))
        if kept == 0:
            self.assertEqual(gone, 0)

    def test_single_works(self):
        self.assertEqual(told((3, 2, (1, 1), 1), ("push", "b")), (0, 2, "b"))
        self.assertEqual(told((3, 2, (1, 1), 1), ("pop",)), (1, 2, ""))
        self.assertEqual(told((3, 2, (1, 1), 1), ("row", ())), (0, 3, ""))
        self.assertEqual(told((3, 2, (1, 1), 1), ("times", 0, ("pop",))), (0, 3, ""))
        self.assertEqual(told((1, 1, (1,), 1), ("push", "a")), (0, 0, "a"))
        self.assertEqual(told((1, 1, (1,), 1), ("pop",)), (0, 0, ""))
        self.assertEqual(told((3, 2, (1, 1), 1), models.row_of("-a-b")), (1, 2, "b"))
        self.assertEqual(told((3, 2, (1, 1), 1), models.row_of("aba--")), (0, 0, "a"))
        self.assertEqual(told((3, 2, (1, 1), 1), models.row_of("---")), (0, 0, ""))

    def test_all_short_steps_over_all_stacks(self):
        for plan in PLANS[:7]:
            stacks = models.stacks(plan)
            for steps in models.texts(models.signs(plan) + "-", 5 if plan[1] < 3 else 4):
                triple = told_of_steps(plan, steps)
                self.check_triple(plan, triple)
                work = models.row_of(steps)
                self.assertEqual(told(plan, work), triple)
                for stack in stacks[::1 + len(stacks) // 12]:
                    behind = models.walked(plan, stack, steps)
                    self.assertEqual(models.moved(triple, stack), behind)
                    self.assertEqual(run(plan, work, stack), behind)

    def test_long_steps_over_all_stacks(self):
        chance = random.Random(5)
        for plan in PLANS:
            for _ in range(60):
                letters = models.signs(plan) + "-" * chance.randrange(1, 4)
                steps = "".join(chance.choice(letters) for _ in range(chance.randrange(30)))
                triple = told_of_steps(plan, steps)
                self.check_triple(plan, triple)
                self.assertEqual(models.triple_table(plan, triple), models.table(plan, steps))

    def test_works_over_all_stacks(self):
        chance = random.Random(6)
        for plan in PLANS:
            for work in works_of(plan, chance, 80, 4):
                triple = told(plan, work)
                self.check_triple(plan, triple)
                steps = models.steps_of(work)
                self.assertEqual(triple, told_of_steps(plan, steps))
                self.assertEqual(models.triple_table(plan, triple), models.table(plan, steps))
                for stack in models.stacks(plan)[::5]:
                    self.assertEqual(run(plan, work, stack), models.walked(plan, stack, steps))

    def test_wide_stacks(self):
        chance = random.Random(7)
        for _ in range(400):
            steps = "".join(chance.choice("abcd---") for _ in range(chance.randrange(40)))
            triple = told_of_steps(WIDE, steps)
            self.check_triple(WIDE, triple)
            stack = "".join(chance.choice("abcd") for _ in range(chance.randrange(10)))
            self.assertEqual(done(WIDE, triple, stack), models.walked(WIDE, stack, steps))

    def test_done_of_all_triples_over_all_stacks(self):
        for plan in PLANS:
            for triple in models.triples(plan):
                for stack in models.stacks(plan):
                    self.assertEqual(done(plan, triple, stack), models.moved(triple, stack))

    def test_each_triple_is_told_of_just_its_work(self):
        for plan in PLANS:
            tables = {models.triple_table(plan, triple) for triple in models.triples(plan)}
            self.assertEqual(len(tables), len(models.triples(plan)))
            self.assertEqual(tables, set(models.least(plan, lambda step: (1,))))

    def test_works_done_very_often(self):
        often = 10 ** 18
        self.assertEqual(told(WIDE, ("times", often, ("push", "c"))), (0, 0, "c" * 9))
        self.assertEqual(told(WIDE, ("times", often, ("pop",))), (0, 0, ""))
        two = models.row_of("ab")
        self.assertEqual(told(WIDE, ("times", often, two)), (0, 0, "babababab"))
        self.assertEqual(run(WIDE, ("times", often, two), "dd"), "babababab")
        swap = models.row_of("-a")
        self.assertEqual(told(WIDE, ("times", often, swap)), (1, 8, "a"))
        self.assertEqual(told(WIDE, ("times", often, models.row_of("a-"))), (0, 8, ""))
        work = swap
        for _ in range(6):
            work = ("times", often, work)
        self.assertEqual(run(WIDE, work, "bcd"), "bca")
        self.assertEqual(told(WIDE, ("times", often, ("times", often, ("times", 0, two)))), (0, 9, ""))

    def test_calls_made_twice_and_what_is_handed_in(self):
        plan = (4, 3, (2, 3, 4), 5)
        work = ("row", (("push", "a"), ("times", 3, ("row", (("pop",), ("push", "c")))), ("pop",)))
        for function, handed in [(told, (plan, work)), (told_of_steps, (plan, "ab--c-")),
                                 (joined, (plan, (1, 2, "a"), (2, 1, "b"))), (powered, (plan, (1, 2, "a"), 10 ** 18)),
                                 (done, (plan, (1, 2, "a"), "abc")), (run, (plan, work, "abc")),
                                 (alike, (plan, work, ("pop",))), (parting, (plan, work, ("pop",)))]:
            before = copy.deepcopy(handed)
            first = function(*handed)
            self.assertEqual(function(*handed), first)
            self.assertEqual(handed, before)


class Joined(unittest.TestCase):
    def test_all_pairs_of_small_plans(self):
        for plan in PLANS[:6]:
            by_table = {models.triple_table(plan, triple): triple for triple in models.triples(plan)}
            for one in models.triples(plan):
                for other in models.triples(plan):
                    behind = tuple(models.moved(other, models.moved(one, stack)) for stack in models.stacks(plan))
                    self.assertEqual(joined(plan, one, other), by_table[behind])

    def test_steps_behind_steps(self):
        chance = random.Random(8)
        for room in range(1, 10):
            for many in range(1, 5):
                plan = (room, many, (1,) * many, 1)
                letters = models.signs(plan) + "--"
                for _ in range(30):
                    one, other = ["".join(chance.choice(letters) for _ in range(chance.randrange(25))) for _ in "12"]
                    self.assertEqual(joined(plan, told_of_steps(plan, one), told_of_steps(plan, other)),
                                     told_of_steps(plan, one + other))

    def test_the_untouched_stack_joined(self):
        for plan in PLANS:
            for triple in models.triples(plan):
                self.assertEqual(joined(plan, triple, (0, plan[0], "")), triple)
                self.assertEqual(joined(plan, (0, plan[0], ""), triple), triple)


class Powered(unittest.TestCase):
    def test_all_triples_of_small_plans_done_one_behind_another(self):
        for plan in PLANS:
            stacks = models.stacks(plan)
            for triple in models.triples(plan):
                behind = stacks
                for many in range(7):
                    whole = powered(plan, triple, many)
                    self.assertEqual([models.moved(whole, stack) for stack in stacks], behind)
                    behind = [models.moved(triple, stack) for stack in behind]

    def test_steps_of_wide_plans_often(self):
        chance = random.Random(9)
        for room in range(1, 10):
            for many in range(1, 5):
                plan = (room, many, (1,) * many, 1)
                letters = models.signs(plan) + "-" * many
                for _ in range(12):
                    steps = "".join(chance.choice(letters) for _ in range(chance.randrange(12)))
                    triple = told_of_steps(plan, steps)
                    for often in range(30):
                        self.assertEqual(powered(plan, triple, often), told_of_steps(plan, steps * often))
                    # Behind as many as have room no stack changes any more.
                    still = told_of_steps(plan, steps * 20)
                    self.assertEqual(told_of_steps(plan, steps * 21), still)
                    for often in (20, 10 ** 9 + 7, 2 ** 59 - 1, 10 ** 18 - 1, 10 ** 18):
                        self.assertEqual(powered(plan, triple, often), still)
                        self.assertEqual(told(plan, ("times", often, models.row_of(steps))), still)

    def test_none_at_all(self):
        for plan in PLANS:
            for triple in models.triples(plan):
                self.assertEqual(powered(plan, triple, 0), (0, plan[0], ""))
                self.assertEqual(powered(plan, triple, 1), triple)


class Alike(unittest.TestCase):
    def check_pair(self, plan, one, other, one_table, other_table):
        """Check alike and parting against what the works make of all stacks."""
        unlike = [stack for stack, x, y in zip(models.stacks(plan), one_table, other_table) if x != y]
        self.assertIs(alike(plan, one, other), not unlike)
        self.assertEqual(parting(plan, one, other), unlike[0] if unlike else None)

    def test_all_pairs_of_small_plans(self):
        for plan in PLANS[:6]:
            steps = self.steps_of_each_table(plan)
            works = [(models.row_of(each), models.table(plan, each)) for each in steps]
            self.assertEqual(len(works), len(models.triples(plan)))
            for one, one_table in works:
                for other, other_table in works:
                    self.check_pair(plan, one, other, one_table, other_table)

    def steps_of_each_table(self, plan):
        """For each table that steps can do, some such steps."""
        found = {tuple(models.stacks(plan)): ""}
        waiting = [(tuple(models.stacks(plan)), "")]
        for state, steps in waiting:
            for step in models.signs(plan) + "-":
                behind = tuple(models.stepped(plan, stack, step) for stack in state)
                if behind not in found:
                    found[behind] = steps + step
                    waiting.append((behind, steps + step))
        return list(found.values())

    def test_works_of_some_shape(self):
        chance = random.Random(10)
        for plan in PLANS:
            works = works_of(plan, chance, 16, 4)
            tables = [models.table(plan, models.steps_of(work)) for work in works]
            for one, one_table in zip(works, tables):
                for other, other_table in zip(works, tables):
                    self.check_pair(plan, one, other, one_table, other_table)

    def test_wide_stacks(self):
        for many in (1, 2, 3):
            plan = (7, many, (1,) * many, 1)
            texts = ["", "-", "a", "a-", "-a", "aa--", "--aa", "-aa-", "a" * 7, "a" * 7 + "-" * 7, "a" * 6 + "-" * 6,
                     "-------", "------", "------a", "--a", "a" * 6 + "-" * 5]
            if many > 1:
                texts += ["b", "-b", "bb--", "--ba", "--ab", "b" * 7 + "-" * 6]
            works = [(models.row_of(text), models.table(plan, text)) for text in texts]
            for one, one_table in works:
                for other, other_table in works:
                    self.check_pair(plan, one, other, one_table, other_table)

    def test_told_pairs(self):
        plan = (9, 4, (1, 1, 1, 1), 1)
        nothing = ("row", ())
        self.assertEqual(parting(plan, nothing, models.row_of("a-")), "aaaaaaaaa")
        self.assertEqual(parting(plan, nothing, ("pop",)), "a")
        self.assertEqual(parting(plan, nothing, models.row_of("-a")), "")
        self.assertEqual(parting(plan, ("push", "a"), models.row_of("-a")), "a")
        self.assertEqual(parting(plan, ("push", "a"), ("push", "b")), "")
        self.assertEqual(parting(plan, models.row_of("a" * 7 + "b"), models.row_of("-" + "a" * 7 + "b")), "a")
        self.assertEqual(parting((2, 2, (1, 1), 1), ("push", "a"), models.row_of("-aa")), "")
        self.assertEqual(parting((2, 2, (1, 1), 1), models.row_of("-a"), models.row_of("aa-")), "aa")

    def test_a_work_is_alike_itself_however_written(self):
        plan = (9, 4, (1, 1, 1, 1), 1)
        self.assertTrue(alike(plan, ("times", 10 ** 18, ("push", "d")), ("times", 9, ("push", "d"))))
        self.assertFalse(alike(plan, ("times", 10 ** 18, ("push", "d")), ("times", 8, ("push", "d"))))
        self.assertIsNone(parting(plan, ("times", 10 ** 18, ("pop",)), ("times", 9, ("pop",))))
        self.assertEqual(parting(plan, ("times", 10 ** 18, ("pop",)), ("times", 8, ("pop",))), "aaaaaaaaa")
        self.assertTrue(alike(plan, ("row", (("row", ()), ("pop",))), ("times", 1, ("pop",))))


if __name__ == "__main__":
    unittest.main()
