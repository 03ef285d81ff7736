"""Prices, against all steps of small plans gone through."""

import copy
import random
import unittest

from sinkstack.prices import cheapest, cost, fewest, fillers, judged
from sinkstack.triples import told_of_steps
from tests import models
from tests.models import PLANS


class Cost(unittest.TestCase):
    def test_single_works(self):
        plan = (3, 3, (5, 4, 7), 6)
        for work, price in [(("push", "a"), 5), (("push", "b"), 4), (("push", "c"), 7), (("pop",), 6), (("row", ()), 0),
                            (("times", 0, ("pop",)), 0), (("times", 10 ** 18, ("pop",)), 6 * 10 ** 18),
                            (("row", (("pop",), ("push", "c"), ("pop",))), 19),
                            (("times", 3, ("row", (("pop",), ("times", 2, ("push", "a"))))), 48)]:
            self.assertEqual(cost(plan, work), price)

    def test_pops_of_an_empty_stack_and_pushes_on_a_full_one_cost_too(self):
        self.assertEqual(cost((1, 1, (2,), 3), models.row_of("---aaaa")), 17)

    def test_works_within_works_done_very_often(self):
        work = ("push", "b")
        for _ in range(7):
            work = ("times", 10 ** 18, work)
        self.assertEqual(cost((9, 2, (98, 99), 1), work), 99 * 10 ** 126)

    def test_against_steps_one_by_one(self):
        chance = random.Random(11)
        for plan in PLANS:
            for _ in range(40):
                steps = "".join(chance.choice(models.signs(plan) + "-") for _ in range(chance.randrange(20)))
                work = ("row", (("times", 3, models.row_of(steps)), ("row", ()), ("times", 0, models.row_of("a"))))
                self.assertEqual(cost(plan, work), models.price(plan, models.steps_of(work)))


class Cheapest(unittest.TestCase):
    def check_steps(self, plan, triple, price):
        """Check that the cheapest steps do what the triple does at the price told."""
        told, steps = cheapest(plan, triple)
        self.assertEqual(told, price)
        self.assertEqual(models.price(plan, steps), price)
        self.assertEqual(models.table(plan, steps), models.triple_table(plan, triple))
        self.assertEqual(judged(plan, triple, steps), price)

    def test_against_all_steps_of_small_plans(self):
        for plan in PLANS + [(4, 1, (1,), 1), (4, 2, (1, 2), 9), (4, 2, (9, 8), 1), (5, 1, (3,), 2), (3, 2, (4, 3), 6)]:
            prices = models.least(plan, lambda step: (models.price(plan, step),))
            for triple in models.triples(plan):
                self.check_steps(plan, triple, prices[models.triple_table(plan, triple)][0])

    def test_fewest_against_all_steps_of_small_plans(self):
        for plan in PLANS + [(4, 1, (1,), 1), (5, 1, (3,), 2)]:
            lengths = models.least(plan, lambda step: (1,))
            for triple in models.triples(plan):
                self.assertEqual(fewest(plan, triple), lengths[models.triple_table(plan, triple)][0])

    def test_fillers_against_all_steps_of_small_plans(self):
        for plan in PLANS + [(4, 1, (1,), 1), (4, 2, (1, 2), 9), (4, 2, (9, 8), 1), (5, 1, (3,), 2), (2, 1, (3,), 3)]:
            # Of the cheapest steps those with most pushes: so with gone 0, where both prices are the same.
            found = models.least(plan, lambda step: (models.price(plan, step), 0 if step == "-" else -1))
            for triple in models.triples(plan):
                pushes = -found[models.triple_table(plan, triple)][1]
                self.assertEqual(fillers(plan, triple), pushes - len(triple[2]))

    def test_all_is_the_rule_of_the_document_on_wide_plans(self):
        chance = random.Random(12)
        for _ in range(300):
            room, many = chance.randrange(1, 10), chance.randrange(1, 5)
            plan = (room, many, tuple(chance.randrange(1, 100) for _ in range(many)), chance.randrange(1, 100))
            steps = "".join(chance.choice(models.signs(plan) + "-" * many) for _ in range(chance.randrange(30)))
            gone, kept, laid = triple = told_of_steps(plan, steps)
            goes = [gone] if kept else [0, room]
            told = []
            for pops in goes:
                filled = room - kept - max(pops, len(laid))
                told.append((pops * plan[3] + models.price(plan, laid) + filled * (min(plan[2]) + plan[3]), filled))
            best = min(told, key=lambda pair: pair[0])
            self.assertEqual((cheapest(plan, triple)[0], fillers(plan, triple)), best)
            self.assertEqual(judged(plan, triple, cheapest(plan, triple)[1]), best[0])
            self.assertLessEqual(best[0], models.price(plan, steps))

    def test_kept_none_where_gone_none_is_cheaper(self):
        plan = (3, 2, (9, 1), 10)
        self.assertEqual(cheapest(plan, (0, 0, "ab"))[0], 21)
        self.assertEqual(fillers(plan, (0, 0, "ab")), 1)
        self.assertEqual(fewest(plan, (0, 0, "ab")), 4)

    def test_kept_none_where_gone_room_is_cheaper(self):
        plan = (3, 2, (9, 8), 1)
        self.assertEqual(cheapest(plan, (0, 0, "ab")), (20, "---ab"))
        self.assertEqual(fillers(plan, (0, 0, "ab")), 0)
        self.assertEqual(fewest(plan, (0, 0, "ab")), 4)
        self.assertEqual(cheapest(plan, (0, 0, "")), (3, "---"))

    def test_kept_none_where_both_cost_the_same(self):
        # Two pops, or one push and one pop.
        plan = (2, 1, (3,), 3)
        self.assertEqual(cheapest(plan, (0, 0, "a"))[0], 9)
        self.assertEqual(fillers(plan, (0, 0, "a")), 1)
        self.assertEqual(fewest(plan, (0, 0, "a")), 3)
        # Three pops of 4, or two pushes of 2 with their pops.
        plan = (3, 2, (5, 2), 4)
        self.assertEqual(cheapest(plan, (0, 0, "a"))[0], 17)
        self.assertEqual(fillers(plan, (0, 0, "a")), 2)
        self.assertEqual(fewest(plan, (0, 0, "a")), 4)

    def test_the_shortest_need_not_be_the_cheapest(self):
        plan = (9, 1, (1,), 99)
        self.assertEqual(cheapest(plan, (0, 0, "a"))[0], 801)
        self.assertEqual(fillers(plan, (0, 0, "a")), 8)
        self.assertEqual(fewest(plan, (0, 0, "a")), 10)
        plan = (9, 1, (99,), 1)
        self.assertEqual(cheapest(plan, (0, 0, "aaaaaaaa")), (801, "---------aaaaaaaa"))
        self.assertEqual(fewest(plan, (0, 0, "aaaaaaaa")), 10)

    def test_a_whole_stack_laid_and_nothing_done(self):
        plan = (9, 4, (1, 2, 3, 4), 1)
        self.assertEqual(cheapest(plan, (0, 0, "abcdabcda")), (21, "abcdabcda"))
        self.assertEqual(fillers(plan, (0, 0, "abcdabcda")), 0)
        self.assertEqual(cheapest(plan, (0, 9, "")), (0, ""))
        self.assertEqual((fewest(plan, (0, 9, "")), fillers(plan, (0, 9, ""))), (0, 0))
        self.assertEqual((fewest(plan, (2, 3, "d")), fillers(plan, (2, 3, "d"))), (11, 4))
        self.assertEqual((fewest(plan, (1, 3, "dd")), fillers(plan, (1, 3, "dd"))), (11, 4))


class Judged(unittest.TestCase):
    def test_against_all_short_steps(self):
        for plan in PLANS[:4] + PLANS[5:6]:
            tables = {triple: models.triple_table(plan, triple) for triple in models.triples(plan)}
            for steps in models.texts(models.signs(plan) + "-", 4 if plan[1] < 4 else 3):
                does = models.table(plan, steps)
                for triple, behind in tables.items():
                    wanted = models.price(plan, steps) if behind == does else None
                    self.assertEqual(judged(plan, triple, steps), wanted)

    def test_told_steps(self):
        plan = (3, 2, (5, 4), 6)
        self.assertEqual(judged(plan, (0, 3, ""), ""), 0)
        self.assertIsNone(judged(plan, (0, 3, ""), "a-"))
        self.assertEqual(judged(plan, (0, 2, ""), "a-"), 11)
        self.assertEqual(judged(plan, (0, 2, ""), "b-a-b-"), 31)
        self.assertEqual(judged(plan, (0, 0, ""), "-" * 1000), 6000)
        self.assertIsNone(judged(plan, (1, 2, ""), "--"))

    def test_calls_made_twice_and_what_is_handed_in(self):
        plan = (4, 3, (2, 3, 4), 5)
        work = ("times", 10 ** 18, ("row", (("pop",), ("push", "c"))))
        for function, handed in [(cost, (plan, work)), (cheapest, (plan, (1, 2, "a"))), (fewest, (plan, (1, 2, "a"))),
                                 (fillers, (plan, (0, 0, "a"))), (judged, (plan, (1, 2, "a"), "-b-a"))]:
            before = copy.deepcopy(handed)
            first = function(*handed)
            self.assertEqual(function(*handed), first)
            self.assertEqual(handed, before)


if __name__ == "__main__":
    unittest.main()
