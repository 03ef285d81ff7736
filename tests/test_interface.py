"""Names, arguments and files of the interface."""

import inspect
import unittest

from sinkstack import prices, triples

LISTED = {
    triples: {
        "told": ["plan", "work"], "told_of_steps": ["plan", "steps"], "joined": ["plan", "one", "other"],
        "powered": ["plan", "triple", "many"], "done": ["plan", "triple", "stack"], "run": ["plan", "work", "stack"],
        "alike": ["plan", "one", "other"], "parting": ["plan", "one", "other"],
    },
    prices: {
        "cost": ["plan", "work"], "fewest": ["plan", "triple"], "fillers": ["plan", "triple"],
        "cheapest": ["plan", "triple"], "judged": ["plan", "triple", "steps"],
    },
}


class Interface(unittest.TestCase):
    def test_each_function_is_defined_where_it_is_listed(self):
        for module, functions in LISTED.items():
            for name, arguments in functions.items():
                function = getattr(module, name)
                self.assertEqual(function.__module__, module.__name__)
                self.assertEqual(list(inspect.signature(function).parameters), arguments)

    def test_arguments_may_be_named(self):
        plan = (3, 2, (5, 4), 6)
        self.assertEqual(triples.run(stack="ab", work=("pop",), plan=plan), "a")
        self.assertEqual(triples.powered(plan=plan, many=2, triple=(1, 2, "")), (2, 1, ""))
        self.assertEqual(prices.judged(steps="-", triple=(1, 2, ""), plan=plan), 6)

    def test_kinds_of_values(self):
        plan = (3, 2, (5, 4), 6)
        work = ("row", (("push", "a"), ("pop",)))
        for triple in (triples.told(plan, work), triples.told_of_steps(plan, "a-"),
                       triples.joined(plan, (0, 3, ""), (1, 1, "b")), triples.powered(plan, (1, 1, "b"), 3)):
            self.assertIs(type(triple), tuple)
            self.assertEqual([type(each) for each in triple], [int, int, str])
        self.assertIs(type(triples.done(plan, (0, 3, ""), "")), str)
        self.assertIs(type(triples.run(plan, work, "")), str)
        self.assertIs(triples.alike(plan, work, work), True)
        self.assertIs(triples.alike(plan, work, ("pop",)), False)
        self.assertIs(type(triples.parting(plan, work, ("pop",))), str)
        self.assertIs(triples.parting(plan, work, work), None)
        self.assertIs(type(prices.cost(plan, ("row", ()))), int)
        self.assertIs(type(prices.fewest(plan, (0, 3, ""))), int)
        self.assertIs(type(prices.fillers(plan, (0, 3, ""))), int)
        told = prices.cheapest(plan, (0, 3, ""))
        self.assertIs(type(told), tuple)
        self.assertEqual(told, (0, ""))
        self.assertIs(type(prices.judged(plan, (0, 3, ""), "")), int)
        self.assertIs(prices.judged(plan, (0, 3, ""), "-"), None)


if __name__ == "__main__":
    unittest.main()
