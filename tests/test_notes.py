"""Works written and read, against all short texts and a plain grammar of the test's own."""

import random
import re
import unittest

from sinkstack.errors import BadText, BadWork
from sinkstack.notes import read, written
from sinkstack.prices import cost
from sinkstack.triples import alike, told
from tests import models
from tests.wrong import many_works, times_within

PLAN = (3, 2, (5, 4), 6)
WIDE = (9, 4, (3, 1, 2, 9), 5)
# All that a text may hold, line ends among them.
LETTERS = [chr(code) for code in range(32, 127)] + ["\n", "\r"]


def plain_text(work):
    """The text of a work, by the document's words."""
    if work[0] == "push":
        return work[1]
    if work[0] == "pop":
        return "-"
    if work[0] == "row":
        return "".join(plain_text(inner) for inner in work[1])
    return "[" + plain_text(work[2]) + "]" + str(work[1])


def can_begin(plan, text):
    """Whether some text that can be read begins so: what is whole within is taken out, again and again."""
    while True:
        shorter = re.sub(r"\[[a-d-]*\](0|[1-9][0-9]*)(?![0-9])",
                         lambda found: "-" if int(found.group(1)) <= 10 ** 18 else "%", text)
        if shorter == text:
            break
        text = shorter
    step = "[" + models.signs(plan) + "-]"
    return re.fullmatch(rf"({step}|\[)*(\[{step}*\])?", text) is not None


def first_wrong(plan, text):
    """The place that BadText must tell of a text, or None."""
    for place in range(len(text)):
        if not can_begin(plan, text[:place + 1]):
            return place
    if text.count("[") > text.count("]") or text.endswith("]"):
        return len(text)
    return None


def random_work(plan, chance, deep):
    """A work by chance that can be read when written."""
    kind = chance.choice(["push", "pop", "row", "times"] if deep > 2 else ["push", "pop"])
    if kind == "push":
        return ("push", chance.choice(models.signs(plan)))
    if kind == "pop":
        return ("pop",)
    if kind == "row":
        return ("row", tuple(random_work(plan, chance, deep - 1) for _ in range(chance.randrange(4))))
    return ("times", chance.choice([0, 1, 9, 10, 11, 10 ** 18]), random_work(plan, chance, deep - 2))


class Written(unittest.TestCase):
    def test_told_texts(self):
        for work, text in [
                (("push", "a"), "a"), (("pop",), "-"), (("row", ()), ""), (("row", (("row", ()), ("row", ()))), ""),
                (("row", (("push", "a"), ("row", (("pop",), ("push", "b"))))), "a-b"),
                (("times", 0, ("pop",)), "[-]0"), (("times", 10, ("row", ())), "[]10"),
                (("times", 10 ** 18, ("times", 1, ("push", "b"))), "[[b]1]1000000000000000000"),
                (("row", (("times", 2, ("push", "a")), ("times", 3, ("pop",)), ("push", "b"))), "[a]2[-]3b")]:
            self.assertEqual(written(PLAN, work), text)

    def test_works_by_chance(self):
        chance = random.Random(61)
        for plan in PLAN, WIDE:
            for _ in range(300):
                work = random_work(plan, chance, 8)
                if count_works(work) <= 60:
                    self.assertEqual(written(plan, work), plain_text(work))

    def test_eight_deep_and_sixty_works(self):
        self.assertEqual(written(PLAN, times_within(8)), "[[[[[[[-]1]1]1]1]1]1]1")
        self.assertEqual(written(PLAN, many_works(60)), "-" * 59)
        with self.assertRaises(BadWork) as caught:
            written(PLAN, times_within(9))
        self.assertEqual(caught.exception.number, 8)
        with self.assertRaises(BadWork) as caught:
            written(PLAN, many_works(61))
        self.assertEqual(caught.exception.number, 60)


def count_works(work):
    """How many works a work has, itself counted."""
    if work[0] == "row":
        return 1 + sum(count_works(inner) for inner in work[1])
    return 1 + count_works(work[2]) if work[0] == "times" else 1


class Read(unittest.TestCase):
    def refused_at(self, plan, text):
        """The place at which a text is refused, or None."""
        try:
            read(plan, text)
        except BadText as refusal:
            self.assertIs(type(refusal.place), int)
            return refusal.place
        except BadWork:
            return None
        return None

    def test_told_works(self):
        for text, work in [
                ("", ("row", ())), ("a", ("row", (("push", "a"),))), ("-", ("row", (("pop",),))),
                ("ab-", ("row", (("push", "a"), ("push", "b"), ("pop",)))),
                ("[]0", ("row", (("times", 0, ("row", ())),))),
                ("[b]10", ("row", (("times", 10, ("row", (("push", "b"),))),))),
                ("[a]2[-]3b", ("row", (("times", 2, ("row", (("push", "a"),))), ("times", 3, ("row", (("pop",),))),
                                       ("push", "b")))),
                ("a[-[b]3]1000000000000000000-",
                 ("row", (("push", "a"),
                          ("times", 10 ** 18, ("row", (("pop",), ("times", 3, ("row", (("push", "b"),)))))),
                          ("pop",))))]:
            self.assertEqual(read(PLAN, text), work)
            self.assertEqual(repr(read(PLAN, text)), repr(work))
            self.assertEqual(written(PLAN, work), text)

    def test_all_short_texts(self):
        for plan, letters, longest in [((2, 1, (1,), 1), "ab-[]012", 4), ((2, 2, (1, 1), 1), "b[]10", 6)]:
            for text in models.texts(letters, longest):
                place = self.refused_at(plan, text)
                self.assertEqual(place, first_wrong(plan, text), text)
                if place is None:
                    self.assertEqual(written(plan, read(plan, text)), text)

    def test_texts_spoilt_at_each_place(self):
        chance = random.Random(62)
        for text in ["ab--a", "[a]2", "a[-b[a]10]305-", "[[[]0]1]2", "[a]1000000000000000000[b]0-",
                     "[]999999999999999999", "b[a-]12[[-]7]8a"]:
            self.assertIsNone(self.refused_at(PLAN, text))
            for at in range(len(text) + 1):
                spoilt = [text[:at], text[:at] + text[at + 1:], text[:at] + text[at:at + 1] * 2 + text[at + 1:]]
                for sign in "ac-[]019 e%\n" + "".join(chance.sample(LETTERS, 6)):
                    spoilt += [text[:at] + sign + text[at:], text[:at] + sign + text[at + 1:]]
                for each in spoilt:
                    self.assertEqual(self.refused_at(PLAN, each), first_wrong(PLAN, each), each)

    def test_each_letter_at_each_kind_of_place(self):
        for letter in LETTERS + ["\u0661", "\u00b2", "\t", "\x00"]:
            for before, taken in [("", "ab-["), ("a", "ab-["), ("[", "ab-[]"), ("[]", "0123456789"),
                                  ("[]0", "ab-["), ("[]3", "ab-[0123456789"), ("[[]0", "ab-[]")]:
                place = self.refused_at(PLAN, before + letter)
                if letter in taken:
                    self.assertNotEqual(place, len(before))
                else:
                    self.assertEqual(place, len(before), before + letter)

    def test_signs_beyond_the_plan(self):
        for many in (1, 2, 3):
            plan = (9, many, (1,) * many, 1)
            self.assertIsNone(self.refused_at(plan, "abcd"[:many]))
            self.assertEqual(self.refused_at(plan, "abcd"), many)

    def test_more_must_come(self):
        for text in ["[", "[[", "[a", "[a]", "a-[b]", "[[a]1", "[[a]1]", "[]1[", "[[]1000000000000000000"]:
            self.assertEqual(self.refused_at(PLAN, text), len(text))

    def test_numbers(self):
        for number, place in [("0", None), ("00", 3), ("01", 3), ("007", 3), ("10", None), ("12", None),
                              ("1000000000000000000", None),
                              ("1000000000000000001", 20), ("1000000000000000010", 20), ("9999999999999999999", 20),
                              ("2000000000000000000", 20), ("999999999999999999", None), ("10000000000000000000", 21),
                              ("9" * 5000, 20), ("1" + "0" * 5000, 21), ("-1", 2), ("+1", 2), (" 1", 2), ("1_0", 3),
                              ("1.0", 3), ("1e3", 3), ("0x1", 3), ("]", 2), ("a", 2), ("[", 2), ("1]", 3)]:
            self.assertEqual(self.refused_at(PLAN, "[]" + number), place)
        self.assertEqual(read(PLAN, "[]1000000000000000000")[1][0][1], 10 ** 18)

    def test_the_first_wrong_place_is_told(self):
        for text, place in [("c[", 0), ("[c", 1), ("[a]c", 3), ("]", 0), ("a]", 1), ("[]1]", 3), ("[]00]]", 3),
                            ("1", 0), ("a1", 1), ("[1]1", 1), ("[a]1[b]1 ", 8), ("a\nb", 1), ("A", 0)]:
            self.assertEqual(self.refused_at(PLAN, text), place)

    def test_what_is_no_text_is_refused(self):
        for text in [None, True, False, 0, 7, (), ("a",), [], ["a", "-"]]:
            with self.assertRaises(BadText):
                read(PLAN, text)

    def bad_work(self, text):
        """The number of the work that can't be, of a text that could be."""
        with self.assertRaises(BadWork) as caught:
            read(PLAN, text)
        return caught.exception.number

    def test_works_that_can_not_be(self):
        self.assertEqual(read(PLAN, "-" * 59), many_works(60))
        self.assertEqual(self.bad_work("-" * 60), 60)
        self.assertEqual(self.bad_work("a" * 1000), 60)
        self.assertEqual(cost(PLAN, read(PLAN, "[" + "-" * 57 + "]2")), 57 * 2 * 6)
        self.assertEqual(self.bad_work("[" + "-" * 58 + "]2"), 60)
        self.assertEqual(cost(PLAN, read(PLAN, "[]1" * 29 + "-")), 6)
        self.assertEqual(self.bad_work("[]1" * 30), 60)
        # Rows stand between works done often, so eight deep are three of these.
        self.assertEqual(cost(PLAN, read(PLAN, "[[[-]2]2]2")), 48)
        self.assertEqual(self.bad_work("[[[[]2]2]2]2"), 8)
        self.assertEqual(self.bad_work("[[[[-]2]2]2]2"), 8)
        self.assertEqual(self.bad_work("ab[[[-[a]2]2]2]2"), 11)
        self.assertEqual(self.bad_work("-" * 58 + "[[[[]2]2]2]2"), 60)
        self.assertEqual(self.bad_work("[[[[]2]2]2]2" + "-" * 60), 8)

    def test_the_text_is_refused_ahead_of_the_work(self):
        self.assertEqual(self.refused_at(PLAN, "-" * 100 + "c"), 100)
        self.assertEqual(self.refused_at(PLAN, "[[[[[a]1]1]1]1]"), 15)
        self.assertEqual(self.refused_at(PLAN, "[" * 9), 9)

    def test_texts_very_deep_and_very_long(self):
        self.assertEqual(self.refused_at(PLAN, "[" * 20000), 20000)
        self.assertEqual(self.bad_work("[" * 20000 + "]1" * 20000), 8)
        self.assertEqual(self.bad_work("[]1" * 20000), 60)


class WrittenAndRead(unittest.TestCase):
    def check_back(self, plan, work):
        """Check that what is written is read to an alike work, which is written the same."""
        text = written(plan, work)
        again = read(plan, text)
        self.assertEqual(again[0], "row")
        self.assertTrue(alike(plan, work, again))
        self.assertEqual(cost(plan, work), cost(plan, again))
        self.assertEqual(written(plan, again), text)
        self.assertEqual(read(plan, text), again)

    def test_works_by_chance(self):
        chance = random.Random(63)
        for plan in PLAN, WIDE, (1, 1, (1,), 1):
            done = 0
            while done < 300:
                work = random_work(plan, chance, 7)
                if count_works(work) <= 30:
                    self.check_back(plan, work)
                    done += 1

    def test_rows_eight_deep_and_many_works(self):
        work = ("push", "b")
        for _ in range(7):
            work = ("row", (work, ("pop",)))
        self.check_back(PLAN, work)
        self.check_back(PLAN, many_works(60))
        self.check_back(PLAN, times_within(4))
        self.check_back(PLAN, ("row", (("times", 5, ("row", (("pop",),) * 56)), ("push", "a"))))

    def test_what_is_read_is_refused_where_the_rows_of_it_go_too_deep(self):
        # What is written of it could be a text, but its work can't be.
        with self.assertRaises(BadWork) as caught:
            read(PLAN, written(PLAN, times_within(8)))
        self.assertEqual(caught.exception.number, 8)
        self.assertEqual(told(PLAN, times_within(8)), (1, 2, ""))


if __name__ == "__main__":
    unittest.main()
