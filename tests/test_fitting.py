"""Triples that fit pairs of stacks, against all triples gone through one by one."""

import random
import unittest

from sinkstack.befores import count, fitting
from tests import models
from tests.models import PLANS

WIDE = (9, 4, (3, 1, 2, 9), 5)
# For each size of what a triple of that plan lays, the (gone, kept) that it may have.
CUTS = [[(gone, kept) for gone in range(10) for kept in range(10)
         if gone + kept <= 9 and size + kept <= 9 and (kept > 0 or gone == 0)] for size in range(10)]


def found_by_all(triples, pairs):
    """(How many of the triples fit, the first of these)."""
    found = [triple for triple in triples if all(models.moved(triple, one) == other for one, other in pairs)]
    return (len(found), found[0]) if found else (0, None)


class Fitting(unittest.TestCase):
    def test_each_single_pair_of_small_plans(self):
        for plan in PLANS[:3] + PLANS[4:6]:
            triples = models.laid_out(plan)
            for before in models.stacks(plan):
                for after in models.stacks(plan):
                    pairs = [(before, after)]
                    self.assertEqual(fitting(plan, pairs), found_by_all(triples, pairs))

    def test_pairs_by_a_triple_and_pairs_by_chance(self):
        chance = random.Random(31)
        for plan in PLANS + [(5, 1, (3,), 2), (5, 2, (1, 1), 1)]:
            triples = models.laid_out(plan)
            stacks = models.stacks(plan)
            for turn in range(60):
                triple = chance.choice(triples)
                befores = [chance.choice(stacks) for _ in range(chance.randrange(1, 5))]
                pairs = [(before, models.moved(triple, before)) for before in befores]
                if turn % 3 == 0:
                    pairs.insert(chance.randrange(len(pairs) + 1), (chance.choice(stacks), chance.choice(stacks)))
                wanted = found_by_all(triples, pairs)
                self.assertEqual(fitting(plan, pairs), wanted)
                # The same pairs twice, or the other way round, ask nothing more.
                self.assertEqual(fitting(plan, pairs + pairs), wanted)
                self.assertEqual(fitting(plan, pairs[::-1]), wanted)

    def test_all_pairs_of_a_triple_leave_just_it(self):
        for plan in PLANS[:6]:
            for triple in models.triples(plan):
                pairs = [(stack, models.moved(triple, stack)) for stack in models.stacks(plan)]
                self.assertEqual(fitting(plan, pairs), (1, triple))

    def test_no_pairs_fit_all(self):
        for plan in PLANS + [WIDE]:
            self.assertEqual(fitting(plan, []), (count(plan), (0, 0, "")))

    def test_one_before_with_two_afters(self):
        plan = (3, 2, (5, 4), 6)
        self.assertEqual(fitting(plan, [("a", "a"), ("a", "b")]), (0, None))
        self.assertEqual(fitting(plan, [("a", "a"), ("a", "")]), (0, None))

    def test_told_fits(self):
        plan = (1, 1, (5,), 3)
        # The triples are (0, 0, ""), (0, 1, "") and (0, 0, "a").
        self.assertEqual(fitting(plan, [("", "")]), (2, (0, 0, "")))
        self.assertEqual(fitting(plan, [("a", "a")]), (2, (0, 1, "")))
        self.assertEqual(fitting(plan, [("", ""), ("a", "a")]), (1, (0, 1, "")))
        self.assertEqual(fitting(plan, [("", "a"), ("a", "")]), (0, None))
        plan = (3, 2, (5, 4), 6)
        # These are (0, 3, "") and (1, 2, "b").
        self.assertEqual(fitting(plan, [("aab", "aab"), ("b", "b")]), (2, (0, 3, "")))
        self.assertEqual(fitting(plan, [("aab", "aab"), ("", "")]), (1, (0, 3, "")))
        # These are (0, 2, ""), (1, 1, "b"), (2, 1, "b") and (0, 0, "ab").
        self.assertEqual(fitting(plan, [("aab", "ab")]), (4, (0, 2, "")))

    def test_the_widest_plan(self):
        chance = random.Random(32)
        # Of the 1.3 million triples of the widest plan those that lay no end of an after can't fit.
        asked = []
        for _ in range(12):
            gone, kept = chance.choice([(0, 0), (1, 5), (3, 2), (0, 7), (2, 7)])
            laid = "".join(chance.choice("abcd") for _ in range(chance.randrange(10 - kept)))
            befores = ["".join(chance.choice("abcd") for _ in range(chance.randrange(10))) for _ in range(3)]
            asked.append([(before, models.moved((gone, kept, laid), before)) for before in befores])
        asked.append([("abcd", "abcd")] * 3)
        asked.append([("", "abcdabcda"), ("ab", "abcdabcda")])
        asked.append([("abcdabcda", "bcdabcda"), ("", "a")])
        asked.append([("d" * 9, "a" * 9)])
        for pairs in asked:
            after = pairs[0][1]
            ends = [after[at:] for at in range(len(after), -1, -1)]
            triples = [(gone, kept, laid) for laid in ends for gone in range(10) for kept in range(10)
                       if gone + kept <= 9 and len(laid) + kept <= 9 and (kept > 0 or gone == 0)]
            self.assertEqual(fitting(WIDE, pairs), found_by_all(triples, pairs))

    def test_all_triples_of_the_widest_plan_done_to_one_stack(self):
        before = "dabca"
        found = {}
        for laid in models.texts("abcd", 9):
            for gone, kept in CUTS[len(laid)]:
                behind = before[:max(5 - gone, 0)]
                behind = behind[max(len(behind) - kept, 0):] + laid
                many, first = found.get(behind, (0, (gone, kept, laid)))
                found[behind] = (many + 1, first)
        self.assertEqual(sum(many for many, first in found.values()), count(WIDE))
        told = list(found)
        for after in told[:400] + told[400::97] + [before, "dabc", "d", "a" * 9, "dabcabcda", "dabcaaaaa"]:
            self.assertEqual(fitting(WIDE, [(before, after)]), found.get(after, (0, None)))

    def test_many_pairs(self):
        pairs = [(stack, models.moved((1, 7, "c"), stack)) for stack in models.texts("abcd", 6)]
        # Which of seven or eight are kept no stack of six tells.
        self.assertEqual(fitting(WIDE, pairs), (4, (1, 5, "c")))
        self.assertEqual(fitting(WIDE, pairs + [("a" * 9, "a" * 7 + "c")]), (1, (1, 7, "c")))

    def test_a_list_changed_later_changes_nothing(self):
        plan = (3, 2, (5, 4), 6)
        pairs = [("aab", "ab")]
        told = fitting(plan, pairs)
        pairs.append(("", "b"))
        self.assertEqual(told, (4, (0, 2, "")))
        self.assertEqual(fitting(plan, pairs), (2, (1, 1, "b")))
        pairs.clear()
        self.assertEqual(fitting(plan, pairs), (count(plan), (0, 0, "")))


if __name__ == "__main__":
    unittest.main()
