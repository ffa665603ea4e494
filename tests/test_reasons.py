import copy
import random
import unittest
from itertools import combinations

from kerbside.errors import BadPaper, Missing, Never
from kerbside.finds import with_find
from kerbside.reasons import check_reason, reason
from kerbside.sources import can_be, cannot_be, explanations, must_be
from kerbside.yards import read_yard

from helpers import plain_open, random_finds, random_yard, sources_of, ways_of

SMALL = read_yard("2: +0 +1 P0,1 D2/2")
THREE = read_yard("3: +0 +1 P0,1 +2 D2/2 P5,3")
WORDS = ("", "can", "must", "cannot", "Can", "cannot ", "may")
OUTSIDE = (-1, -3, 8, 10 ** 20)


def lists_of(many):
    """Gives all lists of lots, ascending and each once."""
    for size in range(many + 1):
        for chosen in combinations(range(many), size):
            yield list(chosen)


def is_shut(yard, finds, starts, closed):
    """Tells whether a list is one of lots, in order, and holds all that [6.5] wants of it, but for bare lots."""
    lots = sources_of(yard)
    if closed != sorted(set(closed)) or not set(closed) <= set(range(len(lots))):
        return False
    wanted = {lot for lot, (household, _) in enumerate(lots) if household in starts}
    wanted |= {lot for lot, (_, sources) in enumerate(lots) if set(sources) & set(closed)}
    return wanted <= set(closed) | {lot for lot, has in finds if not has}


def is_paper(yard, finds, household, paper):
    """Tells whether a paper is one for the household, by the definition [6.5]."""
    word, parts = paper[0], paper[1:]
    if (word, len(parts)) == ("can", 1):
        return parts[0] in plain_open(yard, finds, household)
    if (word, len(parts)) == ("must", 2):
        lot, closed = parts
        others = [other for other in range(yard[0]) if other != household]
        return (lot, True) in finds and lot not in closed and is_shut(yard, finds, others, closed)
    if (word, len(parts)) == ("cannot", 1):
        used = {source for _, sources in sources_of(yard) for source in sources}
        return set(parts[0]) <= used and is_shut(yard, finds, [household], parts[0])
    return False


class Reasons(unittest.TestCase):
    def setUp(self):
        self.source = random.Random(121)

    def cases(self, many, deeds=8):
        """Gives yards with finds, half of them finds of things that went some ways."""
        for turn in range(many):
            households = turn * 4 // many + 1
            bringers = self.source.sample(range(households), self.source.choice((0, households)))
            yard = random_yard(self.source, households, deeds, self.source.choice((0, 3)), bringers)
            yield yard, random_finds(self.source, yard, turn % 2 == 0)

    def judge(self, yard, finds, household, paper):
        """Asserts that check_reason says of a paper what the definition says; returns it."""
        right = is_paper(yard, finds, household, paper)
        if right:
            self.assertIsNone(check_reason(yard, finds, household, paper))
        else:
            with self.assertRaises(BadPaper, msg=(yard, finds, household, paper)):
                check_reason(yard, finds, household, paper)
        return right


class ReasonTest(Reasons):
    def test_known_papers(self):
        finds = ((3, True), (4, True))
        self.assertEqual(reason(SMALL, finds, 0)[0], "can")
        self.assertIn(reason(SMALL, finds, 0)[1], [[0, 2, 3], [0, 2, 4]])
        self.assertEqual(reason(SMALL, ((0, False), (3, True)), 1), ("must", 3, []))
        self.assertEqual(reason(SMALL, ((0, False), (3, True)), 0), ("cannot", []))
        self.assertEqual(reason(SMALL, ((0, True),), 0), ("must", 0, [1, 2, 3, 4]))
        self.assertEqual(reason(SMALL, ((2, False),), 0), ("cannot", [0]))
        self.assertEqual(reason(SMALL, ((3, False), (4, False)), 1), ("cannot", [1, 2]))
        self.assertEqual([reason((2, ()), (), household) for household in (0, 1)], [("cannot", [])] * 2)

    def test_the_word_that_is_due(self):
        seen = {"can": 0, "must": 0, "cannot": 0}
        for yard, finds in self.cases(400):
            if not explanations(yard, finds):
                continue
            for household in range(yard[0]):
                paper = reason(yard, finds, household)
                word = "must" if household in must_be(yard, finds) else "can"
                if household in cannot_be(yard, finds):
                    word = "cannot"
                self.assertEqual(paper[0], word, (yard, finds, household))
                self.assertTrue(is_paper(yard, finds, household, paper), (yard, finds, household, paper))
                self.assertIsNone(check_reason(yard, finds, household, paper))
                self.assertIs(type(paper), tuple)
                self.assertIs(type(paper[-1]), list)
                seen[word] += 1
        self.assertGreater(min(seen.values()), 60, seen)

    def test_missing_comes_before_never(self):
        never = ((0, True), (2, False))
        for yard, finds in ((SMALL, ()), (SMALL, never), ((1, ()), ()), (THREE, ((6, True),))):
            for household in (yard[0], yard[0] + 1, -1, -yard[0], 10 ** 20):
                with self.assertRaises(Missing):
                    reason(yard, finds, household)

    def test_never(self):
        tried = 0
        for yard, finds in self.cases(200):
            if not explanations(yard, finds):
                for household in range(yard[0]):
                    tried += 1
                    with self.assertRaises(Never):
                        reason(yard, finds, household)
        self.assertGreater(tried, 40)

    def test_arguments_and_results(self):
        for yard, finds in self.cases(40):
            if not explanations(yard, finds):
                continue
            for household in range(yard[0]):
                kept = copy.deepcopy((yard, finds))
                wanted = copy.deepcopy(reason(yard, finds, household))
                paper = reason(yard, finds, household)
                check_reason(yard, finds, household, paper)
                self.assertEqual(paper, wanted)
                paper[-1].append(9)
                self.assertEqual(reason(yard, finds, household), wanted)
                self.assertEqual((yard, finds), kept)


class CheckTest(Reasons):
    def every_paper(self, yard):
        """Gives papers of all three kinds with all lots and all lists in order."""
        many = len(sources_of(yard))
        for chosen in lists_of(many):
            yield ("can", chosen)
            yield ("cannot", chosen)
            for lot in range(-1, many + 1):
                yield ("must", lot, chosen)

    def changed_lists(self, lots, many):
        """Returns lists that differ from a list: with a lot left out, put in, exchanged, twice, out of order."""
        found = [lots[:at] + lots[at + 1:] for at in range(len(lots))]
        found += [sorted(lots + [lot]) for lot in range(many)]
        found += [sorted(lots[:at] + [lot] + lots[at + 1:]) for at in range(len(lots)) for lot in range(many)]
        found += [lots + lots[-1:], lots[:1] + lots, lots[::-1], lots[1:] + lots[:1], []]
        found += [sorted(lots + [lot]) for lot in OUTSIDE + (many,)]
        return found + [[lot] + lots[1:] for lot in OUTSIDE + (many,)]

    def variants(self, paper, many):
        """Returns papers that differ from a paper in one part."""
        found = [(word,) + paper[1:] for word in WORDS]
        found += [paper[:-1] + (lots,) for lots in self.changed_lists(paper[-1], many)]
        if paper[0] == "must":
            found += [("must", lot, paper[2]) for lot in range(-1, many + 2)]
            found += [(word, paper[2]) for word in WORDS]
        else:
            found += [(word, lot, paper[1]) for word in WORDS for lot in range(-1, many + 2)]
        return found

    def test_all_papers_of_small_yards(self):
        accepted = {"can": 0, "must": 0, "cannot": 0}
        without = 0
        for yard, finds in self.cases(60, 4):
            if len(sources_of(yard)) > 6:
                continue
            every = explanations(yard, finds)
            for household in range(yard[0]):
                for paper in self.every_paper(yard):
                    if not self.judge(yard, finds, household, paper):
                        continue
                    accepted[paper[0]] += 1
                    without += not every
                    if every:
                        judged = {"can": can_be, "must": must_be, "cannot": cannot_be}[paper[0]]
                        self.assertIn(household, judged(yard, finds), (yard, finds, paper))
        self.assertGreater(min(accepted.values()), 50, accepted)
        self.assertGreater(without, 50)

    def test_papers_with_one_part_changed(self):
        right = 0
        for yard, finds in self.cases(60):
            many = len(sources_of(yard))
            for household in range(yard[0]):
                papers = [("can", way) for way in ways_of(yard, household)[:3]] + [("cannot", []), ("must", 0, [])]
                if explanations(yard, finds):
                    papers.append(reason(yard, finds, household))
                for paper in papers:
                    right += sum(self.judge(yard, finds, household, other) for other in self.variants(paper, many))
        self.assertGreater(right, 100)

    def test_known_papers(self):
        finds = ((0, True),)
        for household, paper, right in (
                (0, ("can", [0, 2, 3]), True), (0, ("can", [0, 2, 4]), True), (0, ("can", [0, 2]), False),
                (0, ("can", [1, 2, 3]), False), (1, ("can", [1, 2, 3]), True), (0, ("can", [2, 3]), False),
                (0, ("must", 0, [1, 2, 3, 4]), True), (0, ("must", 0, [1, 2, 3]), False),
                (0, ("must", 0, [2, 3, 4]), False), (0, ("must", 1, [2, 3, 4]), False),
                (0, ("must", 0, [0, 1, 2, 3, 4]), False), (1, ("must", 0, [1, 2, 3, 4]), False),
                (0, ("cannot", [0, 2]), False), (0, ("cannot", [0, 2, 3, 4]), False)):
            self.assertIs(self.judge(SMALL, finds, household, paper), right, paper)
        finds = ((3, False), (4, False))
        for paper, right in ((("cannot", [0, 2]), True), (("cannot", [0, 1, 2]), True), (("cannot", [0]), False),
                             (("cannot", [2]), False), (("cannot", [0, 2, 3]), False), (("cannot", [2, 0]), False),
                             (("cannot", [0, 0, 2]), False), (("cannot", [-1, 0, 2]), False),
                             (("cannot", [0, 2, 5]), False), (("can", [0, 2, 3]), False)):
            self.assertIs(self.judge(SMALL, finds, 0, paper), right, paper)

    def test_lots_that_had_none_may_be_in_the_list(self):
        # What came of such a lot has to be in the list then, too.
        yard = read_yard("1: +0 D0/2 D1/2")
        finds = ((1, False), (2, False))
        for closed, right in (([0], True), ([0, 1], False), ([0, 1, 3, 4], False)):
            self.assertIs(self.judge(yard, finds, 0, ("cannot", closed)), right)
        yard = read_yard("2: +0 +1 D1/2")
        finds = ((0, True), (1, False))
        for closed, right in (([], True), ([1, 2, 3], True), ([1, 2], False), ([2, 3], True), ([2], True)):
            self.assertIs(self.judge(yard, finds, 0, ("must", 0, closed)), right)

    def test_where_there_is_no_explanation(self):
        # Things were in the lot 0, but in none of the lots that came of it: each paper is judged as it stands.
        finds = ((0, True), (2, False))
        self.assertEqual(explanations(SMALL, finds), [])
        for household, paper, right in ((0, ("must", 0, [1]), True), (0, ("cannot", [0]), True),
                                        (1, ("cannot", [1]), True), (1, ("must", 0, [0]), False),
                                        (0, ("can", [0, 2, 3]), False)):
            self.assertIs(self.judge(SMALL, finds, household, paper), right)

    def test_missing_comes_before_bad_paper(self):
        for yard, finds in self.cases(20):
            for household in (yard[0], yard[0] + 1, -1, -yard[0], 10 ** 20):
                for paper in (("can", [0]), ("must", 0, []), ("cannot", []), ("word", [])):
                    with self.assertRaises(Missing):
                        check_reason(yard, finds, household, paper)

    def test_papers_after_further_finds(self):
        """What shows that a household must or cannot be a source still shows it by finds of further lots."""
        kept = 0
        for yard, finds in self.cases(120):
            if not explanations(yard, finds):
                continue
            searched = [lot for lot, _ in finds]
            for household in range(yard[0]):
                paper = reason(yard, finds, household)
                if paper[0] == "can":
                    continue
                for lot in range(len(sources_of(yard))):
                    for has in (True, False):
                        if lot not in searched:
                            kept += 1
                            self.assertIsNone(check_reason(yard, with_find(yard, finds, lot, has), household, paper))
        self.assertGreater(kept, 50)


if __name__ == "__main__":
    unittest.main()
