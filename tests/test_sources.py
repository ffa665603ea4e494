import copy
import random
import unittest
from itertools import combinations, permutations

from kerbside.errors import Missing, Never
from kerbside.sources import best_search, can_be, cannot_be, explanations, fewest, least_ones, must_be
from kerbside.yards import read_yard

from helpers import plain_open, random_finds, random_yard, sources_of, ways_of

SMALL = read_yard("2: +0 +1 P0,1 D2/2")
THREE = read_yard("3: +0 +1 P0,1 +2 D2/2 P5,3")
LISTS = (explanations, fewest, least_ones)
JUDGEMENTS = (can_be, must_be, cannot_be)


def households_of(yard):
    return range(yard[0])


def sets_of(members):
    """Gives all sets of members, as tuples in their order."""
    for many in range(len(members) + 1):
        yield from combinations(members, many)


def plain_explanations(yard, finds):
    """Returns the explanations by the last words of [6.3]: sets of households that have open ways."""
    lots = [lot for lot, has in finds if has]
    openings = [plain_open(yard, finds, household) for household in households_of(yard)]
    found = []
    for chosen in sets_of(households_of(yard)):
        passed = {lot for household in chosen for way in openings[household] for lot in way}
        if all(openings[household] for household in chosen) and passed.issuperset(lots):
            found.append(chosen)
    return sorted(found)


def sources_of_stories(yard, finds):
    """Returns the explanations by the first words of [6.3]: sources of sets of open ways."""
    lots = {lot for lot, has in finds if has}
    every = [(household, way) for household in households_of(yard) for way in plain_open(yard, finds, household)]
    found = set()
    for story in sets_of(every):
        if lots.issubset(lot for _, way in story for lot in way):
            found.add(tuple(sorted({household for household, _ in story})))
    return sorted(found)


def worse_case_of(yard, finds, lot):
    return max(len(plain_explanations(yard, tuple(sorted(finds + ((lot, has),))))) for has in (True, False))


def plain_best(yard, finds):
    """Returns the best search by the definition [6.6], None if no lot can still be searched."""
    used = [source for _, sources in sources_of(yard) for source in sources]
    searched = [lot for lot, _ in finds]
    best = None
    for lot in range(len(sources_of(yard))):
        if lot not in used and lot not in searched:
            worse = worse_case_of(yard, finds, lot)
            if best is None or worse < best[1]:
                best = (lot, worse)
    return best


class Sources(unittest.TestCase):
    def setUp(self):
        self.source = random.Random(111)

    def cases(self, many, deeds=8):
        """Gives yards with finds, half of them finds of things that went some ways."""
        for turn in range(many):
            households = turn * 4 // many + 1
            bringers = self.source.sample(range(households), self.source.choice((0, households)))
            yard = random_yard(self.source, households, deeds, self.source.choice((0, 3)), bringers)
            yield yard, random_finds(self.source, yard, turn % 2 == 0)


class ExplanationsTest(Sources):
    def test_known_lists(self):
        for finds, wanted in (((), [(), (0,), (0, 1), (1,)]), (((3, True),), [(0,), (0, 1), (1,)]),
                              (((0, True),), [(0,), (0, 1)]), (((0, False),), [(), (1,)]),
                              (((0, True), (1, True)), [(0, 1)]), (((0, False), (3, True)), [(1,)]),
                              (((2, False),), [()]), (((2, False), (3, True)), []),
                              (((0, True), (2, False)), []), (((3, False), (4, False)), [()]),
                              (((0, True), (3, False), (4, False)), [])):
            self.assertEqual(explanations(SMALL, finds), wanted, finds)
        self.assertEqual(explanations(THREE, ((3, True), (4, True))), [(0, 1, 2), (0, 2), (1, 2)])
        self.assertEqual(explanations(THREE, ((4, True), (6, True))),
                         [(0,), (0, 1), (0, 1, 2), (0, 2), (1,), (1, 2)])
        self.assertEqual(explanations((3, ()), ()), [()])

    def test_households_without_lots_are_in_none(self):
        self.assertEqual(explanations(read_yard("4: +2"), ()), [(), (2,)])
        self.assertEqual(explanations(read_yard("4: +2"), ((0, True),)), [(2,)])

    def test_against_all_sets_of_households(self):
        none = several = 0
        for yard, finds in self.cases(400):
            found = explanations(yard, finds)
            self.assertEqual(found, plain_explanations(yard, finds), (yard, finds))
            self.assertIs(type(found), list)
            self.assertEqual([type(chosen) for chosen in found], [tuple] * len(found))
            none += not found
            several += len(found) > 2
        self.assertGreater(none, 40)
        self.assertGreater(several, 40)

    def test_against_all_stories(self):
        for yard, finds in self.cases(160):
            if sum(len(ways_of(yard, household)) for household in households_of(yard)) <= 8:
                self.assertEqual(explanations(yard, finds), sources_of_stories(yard, finds), (yard, finds))

    def test_stories_with_several_ways_of_a_household(self):
        # Both parts had things, so there were two of them, which may be of one household or of both.
        finds = ((3, True), (4, True))
        self.assertEqual(explanations(SMALL, finds), [(0,), (0, 1), (1,)])
        self.assertEqual(sources_of_stories(SMALL, finds), [(0,), (0, 1), (1,)])

    def test_ways_that_go_through_are_open_to_their_end(self):
        # Things in the lot 0 must be in one of the parts, and were in neither.
        self.assertEqual(explanations(read_yard("2: +0 D0/2 +1"), ((0, True), (1, False), (2, False))), [])
        self.assertEqual(explanations(read_yard("2: +0 D0/2 +1"), ((0, True), (1, False))), [(0,), (0, 1)])


class ChosenTest(Sources):
    def test_known_lists(self):
        # The lots 3 and 5 came of the households 0 and 1, and of the household 2.
        yard = read_yard("3: +0 +1 +2 P0,1 D2/2")
        self.assertEqual(fewest(yard, ((3, True), (4, True))), [(0, 2), (1, 2)])
        self.assertEqual(least_ones(yard, ((3, True), (4, True))), [(0, 2), (1, 2)])
        self.assertEqual((fewest(yard, ()), least_ones(yard, ())), ([()], [()]))
        both = read_yard("3: +0 +1 +2 P0,1 D3/2 P4,2")
        finds = ((5, True), (6, True))
        self.assertEqual(explanations(both, finds), [(0,), (0, 1), (0, 1, 2), (0, 2), (1,), (1, 2)])
        self.assertEqual((fewest(both, finds), least_ones(both, finds)), ([(0,), (1,)], [(0,), (1,)]))

    def test_least_ones_of_different_numbers(self):
        # The household 0 reaches both lots with things, the others one each.
        yard = read_yard("3: +0 +1 +2 D0/2 P1,3 P2,4")
        finds = ((5, True), (6, True))
        self.assertEqual(least_ones(yard, finds), [(0,), (1, 2)])
        self.assertEqual(fewest(yard, finds), [(0,)])

    def knots(self):
        """Gives yards in which one household may have things in two lots, or two others in one of them each."""
        for order in permutations(range(3)):
            first, second, third = order
            yard = read_yard(f"3: +{first} +{second} +{third} D0/2 P1,3 P2,4")
            for others in ((), ((0, False),), ((1, False),), ((2, True),), ((3, False),)):
                yield yard, others + ((5, True), (6, True))

    def test_against_all_explanations(self):
        different = 0
        for yard, finds in [*self.cases(300), *self.knots()]:
            every = plain_explanations(yard, finds)
            few = min((len(chosen) for chosen in every), default=0)
            self.assertEqual(fewest(yard, finds), [chosen for chosen in every if len(chosen) == few])
            least = [chosen for chosen in every if not any(set(other) < set(chosen) for other in every)]
            self.assertEqual(least_ones(yard, finds), least)
            different += least != fewest(yard, finds)
        self.assertGreater(different, 5)

    def test_judgements(self):
        undecided = 0
        for yard, finds in self.cases(300):
            every = plain_explanations(yard, finds)
            if not every:
                continue
            can = [household for household in households_of(yard) if any(household in chosen for chosen in every)]
            must = [household for household in households_of(yard) if all(household in chosen for chosen in every)]
            self.assertEqual(can_be(yard, finds), can)
            self.assertEqual(must_be(yard, finds), must)
            self.assertEqual(cannot_be(yard, finds), [each for each in households_of(yard) if each not in can])
            undecided += 0 < len(must) < len(can) < yard[0]
        self.assertGreater(undecided, 3)

    def test_known_judgements(self):
        finds = ((3, True), (4, True))
        self.assertEqual([judge(THREE, finds) for judge in JUDGEMENTS], [[0, 1, 2], [2], []])
        finds = ((1, False), (4, True))
        self.assertEqual([judge(THREE, finds) for judge in JUDGEMENTS], [[0, 2], [0], [1]])
        self.assertEqual([judge((3, ()), ()) for judge in JUDGEMENTS], [[], [], [0, 1, 2]])

    def test_nothing_explains_the_finds(self):
        tried = 0
        for yard, finds in self.cases(300):
            if plain_explanations(yard, finds):
                continue
            tried += 1
            self.assertEqual([call(yard, finds) for call in LISTS], [[], [], []])
            for call in JUDGEMENTS + (best_search,):
                with self.assertRaises(Never, msg=(call, yard, finds)):
                    call(yard, finds)
        self.assertGreater(tried, 30)


class SearchTest(Sources):
    def test_known_searches(self):
        self.assertEqual(best_search(SMALL, ()), (3, 4))
        self.assertEqual(best_search(SMALL, ((2, True), (3, False))), (4, 3))
        self.assertEqual(best_search(read_yard("1: +0"), ()), (0, 1))
        self.assertEqual(best_search(read_yard("1: +0 +0"), ((0, True),)), (1, 1))
        # Behind both answers about a lot of one household alone there are two explanations each.
        self.assertEqual(best_search(read_yard("2: +0 +1"), ()), (0, 2))

    def test_the_least_worse_case_need_not_be_that_of_the_least_lot(self):
        yard = read_yard("3: +0 +1 +2 D0/2 P3,1")
        self.assertEqual([worse_case_of(yard, (), lot) for lot in (2, 4, 5)], [4, 8, 6])
        self.assertEqual(best_search(yard, ()), (2, 4))
        yard = read_yard("2: +0 D0/2 +1")
        self.assertEqual([worse_case_of(yard, (), lot) for lot in (1, 2, 3)], [4, 4, 2])
        self.assertEqual(best_search(yard, ()), (3, 2))

    def test_answers_that_leave_none(self):
        yard = read_yard("2: +0 +1 P0,1")
        self.assertEqual(best_search(yard, ((0, True),)), (2, 2))
        self.assertEqual(best_search(yard, ((0, False), (1, False))), (2, 1))

    def test_against_the_definition(self):
        ties = later = missing = 0
        for yard, finds in self.cases(400):
            if not plain_explanations(yard, finds):
                continue
            wanted = plain_best(yard, finds)
            if wanted is None:
                missing += 1
                with self.assertRaises(Missing):
                    best_search(yard, finds)
                continue
            self.assertEqual(best_search(yard, finds), wanted, (yard, finds))
            used = [source for _, sources in sources_of(yard) for source in sources] + [lot for lot, _ in finds]
            cases = [(lot, worse_case_of(yard, finds, lot)) for lot in range(len(sources_of(yard))) if lot not in used]
            ties += [worse for _, worse in cases].count(wanted[1]) > 1
            later += cases[0][0] != wanted[0]
        self.assertGreater(min(ties, later, missing), 10, (ties, later, missing))

    def test_never_comes_before_missing(self):
        finds = ((0, True), (2, False), (3, False), (4, False))
        with self.assertRaises(Never):
            best_search(SMALL, finds)
        with self.assertRaises(Missing):
            best_search(SMALL, finds[2:])
        with self.assertRaises(Missing):
            best_search((2, ()), ())


class FurtherFindsTest(Sources):
    def test_truthful_finds_one_after_another(self):
        steps = 0
        for _ in range(60):
            yard = random_yard(self.source, self.source.randint(1, 4), 8, 2)
            every = [way for household in households_of(yard) for way in ways_of(yard, household)]
            held = {lot for way in self.source.sample(every, min(len(every), 2)) for lot in way}
            finds = ()
            for lot in self.source.sample(range(len(sources_of(yard))), len(sources_of(yard))):
                self.compare_searches(yard, finds)
                further = tuple(sorted(finds + ((lot, lot in held),)))
                self.assertLessEqual(set(can_be(yard, further)), set(can_be(yard, finds)))
                self.assertGreaterEqual(set(must_be(yard, further)), set(must_be(yard, finds)))
                self.assertGreaterEqual(set(cannot_be(yard, further)), set(cannot_be(yard, finds)))
                self.assertLessEqual(set(explanations(yard, further)), set(explanations(yard, finds)))
                finds = further
                steps += 1
        self.assertGreater(steps, 200)

    def compare_searches(self, yard, finds):
        """Asserts that the explanations behind both answers of a search are together at least those before it."""
        before = set(explanations(yard, finds))
        searched = [lot for lot, _ in finds]
        for lot in range(len(sources_of(yard))):
            if lot not in searched:
                behind = [set(explanations(yard, tuple(sorted(finds + ((lot, has),))))) for has in (True, False)]
                self.assertLessEqual(before, behind[0] | behind[1])
                self.assertGreaterEqual(len(behind[0]) + len(behind[1]), len(before))


class ArgumentsTest(Sources):
    def test_arguments_and_results(self):
        for yard, finds in self.cases(40):
            kept = copy.deepcopy((yard, finds))
            for call in LISTS + (JUDGEMENTS if plain_explanations(yard, finds) else ()):
                found = call(yard, finds)
                wanted = list(found)
                found.append((9,))
                found.reverse()
                self.assertEqual(call(yard, finds), wanted)
            self.assertEqual((yard, finds), kept)


if __name__ == "__main__":
    unittest.main()
