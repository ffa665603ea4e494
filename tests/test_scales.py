import itertools
import random
import unittest

from kerbside.errors import Missing, NotAllowed
from kerbside.scales import (MAX_DAY, MAX_PAPERS, check_drawer, check_paper, counting, drawer_of, is_scale, recalled)

from helpers import pair_of

GOOD = (5, 20, (1, 2), (1, 100), (0, 1), 3)
OTHER = (0, 999, (0, 1), (0, 1), (1, 3), 0)
NAMES = ("a", "z", "ab", "abc", "wxyz", "aaaa")
NO_NAMES = ("", "abcde", "A", "aB", "a1", "1", "a b", " a", "a ", "a-", "_", "\u00e9", "\u00df", "\u0430", "a\n",
            "zzzzzz", "{", "`")
NO_DAYS = (-1, -1000, 1000, 1001, 10 ** 20)


def put(paper, **changes):
    places = ("first", "last", "zero", "share", "drift", "checked")
    return tuple(changes.get(place, part) for place, part in zip(places, paper))


class PaperTest(unittest.TestCase):
    def refuse(self, paper):
        with self.assertRaises(NotAllowed, msg=str(paper)):
            check_paper(paper)

    def test_papers_pass(self):
        self.assertEqual((MAX_DAY, MAX_PAPERS), (999, 12))
        for paper in (GOOD, OTHER, put(GOOD, first=3, last=3), put(GOOD, checked=5), put(GOOD, checked=0),
                      put(GOOD, share=(999, 1000)), put(GOOD, share=(10 ** 40 - 1, 10 ** 40)), put(GOOD, zero=(0, 1)),
                      put(GOOD, zero=(10 ** 40, 3)), put(GOOD, drift=(7, 1)), put(GOOD, first=999, last=999),
                      put(GOOD, first=999, last=999, checked=999), (0, 0, (0, 1), (0, 1), (0, 1), 0)):
            self.assertIsNone(check_paper(paper))

    def test_days_out_of_order(self):
        for first, last, checked in itertools.product((3, 4, 5), repeat=3):
            paper = put(GOOD, first=first, last=last, checked=checked)
            if checked <= first <= last:
                self.assertIsNone(check_paper(paper))
            else:
                self.refuse(paper)

    def test_days_out_of_range(self):
        for day in NO_DAYS:
            for place in ("first", "last", "checked"):
                self.refuse(put(GOOD, **{place: day}))
        self.refuse(put(GOOD, checked=-1, first=0))
        self.refuse(put(GOOD, last=1000))
        self.refuse(put(GOOD, first=1000, last=1000))
        self.refuse(put(GOOD, first=-2, last=-1, checked=-3))

    def test_ratios(self):
        for place in ("zero", "share", "drift"):
            for pair in ((-1, 1), (-1, 10 ** 40), (2, 4), (0, 2), (1, 0), (0, 0), (1, -2), (-1, -2)):
                self.refuse(put(GOOD, **{place: pair}))

    def test_share(self):
        for pair in ((1, 1), (2, 1), (10 ** 40 + 1, 10 ** 40), (3, 2)):
            self.refuse(put(GOOD, share=pair))
        self.assertIsNone(check_paper(put(GOOD, zero=(3, 2), drift=(1, 1))))


class NameTest(unittest.TestCase):
    def test_is_scale(self):
        for text in NAMES:
            self.assertIs(is_scale(text), True)
        for text in NO_NAMES:
            self.assertIs(is_scale(text), False, repr(text))
        for code in range(32, 127):
            letter = chr(code)
            right = letter in "abcdefghijklmnopqrstuvwxyz"
            for text in (letter, "a" + letter, letter + "bcd", "ab" + letter + "c"):
                self.assertIs(is_scale(text), right, text)


class DrawerTest(unittest.TestCase):
    def refuse(self, drawer):
        with self.assertRaises(NotAllowed, msg=str(drawer)):
            check_drawer(drawer)

    def test_drawers_pass(self):
        entry = ("ab", GOOD, None)
        for drawer in ((), (entry,), (entry,) * 12, (("a", GOOD, 0), ("abcd", OTHER, 999), entry),
                       (("a", GOOD, 4), ("a", GOOD, 5), ("a", GOOD, 21))):
            self.assertIsNone(check_drawer(drawer))

    def test_too_many(self):
        self.refuse((("ab", GOOD, None),) * 13)
        self.refuse(tuple((name, GOOD, None) for name in "abcdefghijklm"))

    def test_wrong_entries(self):
        good = ("ab", GOOD, None)
        wrong = [(name, GOOD, None) for name in NO_NAMES]
        wrong += [("ab", GOOD, day) for day in NO_DAYS]
        wrong += [("ab", put(GOOD, last=4), None), ("ab", put(GOOD, share=(1, 1)), 7),
                  ("ab", put(GOOD, zero=(2, 4)), None), ("ab", put(GOOD, drift=(-1, 2)), None),
                  ("ab", put(GOOD, checked=6), None)]
        for entry in wrong:
            for drawer in ((entry,), (good, entry), (entry, good), (good,) * 11 + (entry,)):
                self.refuse(drawer)


class RecallTest(unittest.TestCase):
    def setUp(self):
        self.drawer = (("ab", GOOD, None), ("ab", OTHER, 10), ("c", GOOD, 0))

    def test_until_becomes_the_day(self):
        for day in (0, 1, 4, 5, 10, 20, 21, 999):
            self.assertEqual(recalled(self.drawer, 0, day), (("ab", GOOD, day),) + self.drawer[1:])

    def test_earlier_and_later_recalls(self):
        for day in (0, 9, 10, 11, 999):
            changed = ("ab", OTHER, min(day, 10))
            self.assertEqual(recalled(self.drawer, 1, day), (self.drawer[0], changed, self.drawer[2]))
            self.assertEqual(recalled(self.drawer, 2, day), self.drawer)
        twice = recalled(recalled(self.drawer, 0, 8), 0, 6)
        self.assertEqual(twice, recalled(recalled(self.drawer, 0, 6), 0, 8))
        self.assertEqual(twice[0][2], 6)

    def test_errors(self):
        for index in (-1, -3, 3, 4, 100):
            for day in (5,) + NO_DAYS:
                with self.assertRaises(Missing):
                    recalled(self.drawer, index, day)
        for day in NO_DAYS:
            for index in (0, 1, 2):
                with self.assertRaises(NotAllowed):
                    recalled(self.drawer, index, day)
        with self.assertRaises(Missing):
            recalled((), 0, 0)

    def test_a_recall_is_a_shorter_paper(self):
        for day in range(6, 25):
            shorter = (("ab", put(GOOD, last=min(20, day - 1)), None),)
            for asked in range(0, 30):
                self.assertEqual(counting(recalled(self.drawer[:1], 0, day), "ab", asked),
                                 counting(shorter, "ab", asked))
        for day in range(0, 6):
            for asked in range(0, 30):
                self.assertEqual(counting(recalled(self.drawer[:1], 0, day), "ab", asked), [])


class CountingTest(unittest.TestCase):
    def test_ends_of_papers_and_recalls(self):
        drawer = (("ab", GOOD, None), ("ab", GOOD, 10), ("ab", GOOD, 5), ("ab", GOOD, 21), ("b", GOOD, None),
                  ("ab", OTHER, None), ("ab", put(GOOD, first=20), 999), ("ab", GOOD, 4), ("ab", GOOD, 6))
        for day, wanted in ((0, [5]), (4, [5]), (5, [0, 1, 3, 5, 8]), (6, [0, 1, 3, 5]), (9, [0, 1, 3, 5]),
                            (10, [0, 3, 5]), (19, [0, 3, 5]), (20, [0, 3, 5, 6]), (21, [5]), (999, [5])):
            self.assertEqual(counting(drawer, "ab", day), wanted, day)
        self.assertEqual(counting(drawer, "b", 5), [4])
        self.assertEqual(counting(drawer, "b", 4), [])
        self.assertEqual(counting(drawer, "a", 5), [])
        self.assertEqual(counting((), "ab", 5), [])

    def test_days_of_checks_do_not_count(self):
        self.assertEqual(counting((("a", GOOD, None),), "a", 3), [])

    def test_errors(self):
        for name in NO_NAMES:
            with self.assertRaises(NotAllowed):
                counting((("ab", GOOD, None),), name, 5)
        for day in NO_DAYS:
            with self.assertRaises(NotAllowed):
                counting((), "ab", day)

    def test_the_list_is_new(self):
        drawer = (("ab", GOOD, None),)
        found = counting(drawer, "ab", 7)
        found.append(9)
        self.assertEqual(counting(drawer, "ab", 7), [0])


class DrawerOfTest(unittest.TestCase):
    def setUp(self):
        self.source = random.Random(51)

    def test_ascending_order_whatever_the_order_was(self):
        pairs = [("b", GOOD), ("a", OTHER), ("ab", GOOD), ("a", GOOD), ("a", put(GOOD, zero=(1, 3))),
                 ("a", put(GOOD, zero=(2, 1))), ("a", put(GOOD, last=9))]
        recalls = [("a", GOOD, 9), ("a", GOOD, 7), ("a", GOOD, 8), ("b", GOOD, 0), ("c", GOOD, 1), ("b", OTHER, 2)]
        # Papers are compared as tuples: (1, 2) comes before (1, 3).
        wanted = (("a", OTHER, None), ("a", put(GOOD, last=9), None), ("a", GOOD, 7),
                  ("a", put(GOOD, zero=(1, 3)), None), ("a", put(GOOD, zero=(2, 1)), None), ("ab", GOOD, None),
                  ("b", GOOD, 0))
        for _ in range(20):
            papers = pairs + self.source.choices(pairs, k=9)
            days = recalls + self.source.choices(recalls, k=4)
            self.source.shuffle(papers)
            self.source.shuffle(days)
            kept = list(papers), list(days)
            drawer = drawer_of(papers, days)
            self.assertEqual(drawer, wanted)
            self.assertEqual((papers, days), kept)
            self.assertIsNone(check_drawer(drawer))

    def test_nothing(self):
        self.assertEqual(drawer_of([], []), ())
        self.assertEqual(drawer_of([], [("a", GOOD, 5)]), ())
        self.assertEqual(drawer_of([("a", GOOD)], []), (("a", GOOD, None),))

    def test_recalls_belong_to_scale_and_paper(self):
        papers = [("a", GOOD), ("b", GOOD), ("a", OTHER)]
        self.assertEqual(drawer_of(papers, [("b", GOOD, 999), ("a", put(GOOD, last=21), 5)]),
                         (("a", OTHER, None), ("a", GOOD, None), ("b", GOOD, 999)))

    def test_same_as_recalling_one_by_one(self):
        papers = [(name, paper) for name in ("a", "b") for paper in (GOOD, OTHER, put(GOOD, last=9))]
        for _ in range(40):
            recalls = [(*self.source.choice(papers), self.source.randint(0, 30)) for _ in range(6)]
            drawer = drawer_of(papers, [])
            for name, paper, day in recalls:
                drawer = recalled(drawer, drawer_of(papers, []).index((name, paper, None)), day)
            self.assertEqual(drawer_of(papers, recalls), drawer)

    def test_twelve_and_thirteen(self):
        pairs = [("a", put(GOOD, zero=pair_of(n))) for n in range(13)]
        self.assertEqual(len(drawer_of(pairs[:12] * 3, [])), 12)
        self.assertEqual(len(drawer_of(pairs[:12], [("a", put(GOOD, zero=(77, 1)), 4)])), 12)
        with self.assertRaises(NotAllowed):
            drawer_of(pairs, [])
        with self.assertRaises(NotAllowed):
            drawer_of(pairs, [(name, paper, 0) for name, paper in pairs])

    def test_wrong_parts(self):
        wrong_papers = [put(GOOD, last=4), put(GOOD, share=(1, 1)), put(GOOD, drift=(2, 2)), put(GOOD, zero=(-1, 1)),
                        put(GOOD, checked=-1), put(GOOD, last=1000)]
        for papers, recalls in ([([("a", GOOD), (name, GOOD)], []) for name in NO_NAMES]
                                + [([("a", GOOD), ("a", paper)], []) for paper in wrong_papers]
                                + [([("a", GOOD)], [(name, GOOD, 5)]) for name in NO_NAMES]
                                + [([("a", GOOD)], [("a", paper, 5)]) for paper in wrong_papers]
                                + [([("a", GOOD)], [("b", GOOD, day)]) for day in NO_DAYS]
                                + [([], [("a", GOOD, day)]) for day in NO_DAYS]):
            with self.assertRaises(NotAllowed):
                drawer_of(papers, recalls)


if __name__ == "__main__":
    unittest.main()
