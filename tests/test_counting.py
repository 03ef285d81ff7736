"""All triples by their numbers, against all of them laid out as they rise."""

import random
import unittest

from sinkstack.befores import count
from sinkstack.counting import number_of, triple_at
from sinkstack.errors import BadCount
from tests import models
from tests.models import PLANS

WIDE = (9, 4, (3, 1, 2, 9), 5)


def counted(plan):
    """How many triples a plan has, size by size of what they lay."""
    room, many = plan[0], plan[1]
    whole = 0
    for size in range(room + 1):
        whole += many ** size * (1 + sum(room - kept + 1 for kept in range(1, room - size + 1)))
    return whole


class Counting(unittest.TestCase):
    def test_all_triples_of_small_plans_laid_out(self):
        for plan in PLANS + [(4, 4, (1, 2, 3, 4), 1), (5, 3, (1, 2, 3), 1), (9, 1, (1,), 1), (6, 2, (9, 9), 9)]:
            laid_out = models.laid_out(plan)
            self.assertEqual(count(plan), len(laid_out))
            self.assertEqual([triple_at(plan, number) for number in range(len(laid_out))], laid_out)
            self.assertEqual([number_of(plan, triple) for triple in laid_out], list(range(len(laid_out))))

    def test_how_many_there_are_of_each_room_and_signs(self):
        for room in range(1, 10):
            for many in range(1, 5):
                plan = (room, many, (1,) * many, 1)
                self.assertEqual(count(plan), counted(plan))

    def test_told_numbers(self):
        plan = (1, 1, (5,), 3)
        self.assertEqual([triple_at(plan, number) for number in range(count(plan))],
                         [(0, 0, ""), (0, 1, ""), (0, 0, "a")])
        plan = (2, 2, (5, 4), 3)
        self.assertEqual([triple_at(plan, number) for number in range(count(plan))], [
            (0, 0, ""), (0, 1, ""), (0, 2, ""), (1, 1, ""), (0, 0, "a"), (0, 1, "a"), (1, 1, "a"),
            (0, 0, "b"), (0, 1, "b"), (1, 1, "b"), (0, 0, "aa"), (0, 0, "ab"), (0, 0, "ba"), (0, 0, "bb")])

    def test_first_last_and_beyond(self):
        for room in (1, 2, 8, 9):
            for many in (1, 2, 4):
                plan = (room, many, (7,) * many, 1)
                last = count(plan) - 1
                self.assertEqual(triple_at(plan, 0), (0, 0, ""))
                self.assertEqual(triple_at(plan, last), (0, 0, "abcd"[many - 1] * room))
                self.assertEqual(number_of(plan, (0, 0, "")), 0)
                self.assertEqual(number_of(plan, (0, 0, "abcd"[many - 1] * room)), last)
                for number in (-1, -2, -last, last + 1, last + 2, 10 ** 18, -10 ** 18):
                    if number != 0:
                        with self.assertRaises(BadCount):
                            triple_at(plan, number)

    def test_the_widest_plan(self):
        chance = random.Random(41)
        whole = count(WIDE)
        numbers = sorted([0, 1, 45, 46, 47, whole - 1, whole - 2, whole - 4 ** 9, whole - 4 ** 9 - 1]
                         + [chance.randrange(whole) for _ in range(2000)])
        triples = [triple_at(WIDE, number) for number in numbers]
        self.assertEqual([number_of(WIDE, triple) for triple in triples], numbers)
        self.assertEqual(sorted(triples, key=models.rising), triples)
        self.assertEqual(triple_at(WIDE, 45), (8, 1, ""))
        self.assertEqual(triple_at(WIDE, 46), (0, 0, "a"))
        self.assertEqual(triple_at(WIDE, whole - 4 ** 9), (0, 0, "a" * 9))
        self.assertEqual(triple_at(WIDE, whole - 4 ** 9 - 1), (8, 1, "d" * 8))

    def test_each_number_beside_the_next_on_a_wide_plan(self):
        plan = (9, 2, (1, 1), 1)
        triples = [triple_at(plan, number) for number in range(count(plan))]
        self.assertEqual(triples, models.laid_out(plan))


if __name__ == "__main__":
    unittest.main()
