"""Names, arguments and files of the interface."""

import inspect
import unittest

from sinkstack import befores, counting, machine, notes, prices, triples

LISTED = {
    triples: {
        "told": ["plan", "work"], "told_of_steps": ["plan", "steps"], "joined": ["plan", "one", "other"],
        "powered": ["plan", "triple", "many"], "done": ["plan", "triple", "stack"], "run": ["plan", "work", "stack"],
        "alike": ["plan", "one", "other"], "parting": ["plan", "one", "other"],
    },
    prices: {
        "cost": ["plan", "work"], "fewest": ["plan", "triple"], "fillers": ["plan", "triple"],
        "cheapest": ["plan", "triple"], "judged": ["plan", "triple", "steps"],
    },
    befores: {"befores": ["plan", "triple", "stack"], "fitting": ["plan", "pairs"], "count": ["plan"]},
    counting: {"triple_at": ["plan", "number"], "number_of": ["plan", "triple"]},
    notes: {"written": ["plan", "work"], "read": ["plan", "text"]},
}
METHODS = {"do": ["work"], "push": ["sign"], "pop": [], "back": [], "stack": [], "spent": [], "triple": [], "deeds": []}


class Interface(unittest.TestCase):
    def test_each_function_is_defined_where_it_is_listed(self):
        for module, functions in LISTED.items():
            for name, arguments in functions.items():
                function = getattr(module, name)
                self.assertEqual(function.__module__, module.__name__)
                self.assertEqual(list(inspect.signature(function).parameters), arguments)

    def test_arguments_may_be_named(self):
        plan = (3, 2, (5, 4), 6)
        self.assertEqual(triples.run(stack="ab", work=("pop",), plan=plan), "a")
        self.assertEqual(triples.powered(plan=plan, many=2, triple=(1, 2, "")), (2, 1, ""))
        self.assertEqual(prices.judged(steps="-", triple=(1, 2, ""), plan=plan), 6)

    def test_the_machine_is_defined_where_it_is_listed(self):
        made = machine.Machine
        self.assertEqual(made.__module__, machine.__name__)
        self.assertEqual(list(inspect.signature(made).parameters), ["plan", "stack"])
        for name, arguments in METHODS.items():
            method = vars(made)[name]
            self.assertTrue(inspect.isfunction(method))
            self.assertEqual(list(inspect.signature(method).parameters), ["self"] + arguments)

    def test_arguments_of_the_later_files_may_be_named(self):
        plan = (3, 2, (5, 4), 6)
        self.assertEqual(befores.befores(stack="b", triple=(1, 2, ""), plan=plan), (2, "ba"))
        self.assertEqual(befores.fitting(pairs=[("aab", "ab")], plan=plan), (4, (0, 2, "")))
        self.assertEqual(befores.count(plan=plan), 43)
        self.assertEqual(counting.triple_at(number=0, plan=plan), (0, 0, ""))
        self.assertEqual(counting.number_of(triple=(0, 0, ""), plan=plan), 0)
        self.assertEqual(notes.written(work=("pop",), plan=plan), "-")
        self.assertEqual(notes.read(text="", plan=plan), ("row", ()))
        made = machine.Machine(stack="ab", plan=plan)
        self.assertEqual((made.do(work=("pop",)), made.push(sign="b")), ("a", None))

    def test_kinds_of_values_of_the_later_files(self):
        plan = (3, 2, (5, 4), 6)
        for told in (befores.befores(plan, (1, 2, ""), "b"), befores.fitting(plan, []),
                     befores.fitting(plan, [("", "")])):
            self.assertIs(type(told), tuple)
            self.assertEqual(len(told), 2)
            self.assertIs(type(told[0]), int)
        self.assertIs(type(befores.count(plan)), int)
        self.assertEqual([type(each) for each in counting.triple_at(plan, 40)], [int, int, str])
        self.assertIs(type(counting.triple_at(plan, 40)), tuple)
        self.assertIs(type(counting.number_of(plan, (0, 3, ""))), int)
        self.assertIs(type(notes.written(plan, ("row", ()))), str)
        self.assertIs(type(notes.read(plan, "[a]3")), tuple)
        made = machine.Machine(plan, "aab")
        for told, kind in [(made.do(("row", ())), str), (made.push("a"), str), (made.pop(), str), (made.stack(), str),
                           (made.triple(), tuple), (made.spent(), int), (made.deeds(), int), (made.back(), bool)]:
            self.assertIs(type(told), kind)
        self.assertEqual([type(each) for each in made.triple()], [int, int, str])

    def test_kinds_of_values(self):
        plan = (3, 2, (5, 4), 6)
        work = ("row", (("push", "a"), ("pop",)))
        for triple in (triples.told(plan, work), triples.told_of_steps(plan, "a-"),
                       triples.joined(plan, (0, 3, ""), (1, 1, "b")), triples.powered(plan, (1, 1, "b"), 3)):
            self.assertIs(type(triple), tuple)
            self.assertEqual([type(each) for each in triple], [int, int, str])
        self.assertIs(type(triples.done(plan, (0, 3, ""), "")), str)
        self.assertIs(type(triples.run(plan, work, "")), str)
        self.assertIs(triples.alike(plan, work, work), True)
        self.assertIs(triples.alike(plan, work, ("pop",)), False)
        self.assertIs(type(triples.parting(plan, work, ("pop",))), str)
        self.assertIs(triples.parting(plan, work, work), None)
        self.assertIs(type(prices.cost(plan, ("row", ()))), int)
        self.assertIs(type(prices.fewest(plan, (0, 3, ""))), int)
        self.assertIs(type(prices.fillers(plan, (0, 3, ""))), int)
        told = prices.cheapest(plan, (0, 3, ""))
        self.assertIs(type(told), tuple)
        self.assertEqual(told, (0, ""))
        self.assertIs(type(prices.judged(plan, (0, 3, ""), "")), int)
        self.assertIs(prices.judged(plan, (0, 3, ""), "-"), None)


if __name__ == "__main__":
    unittest.main()
