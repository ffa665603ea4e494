import copy
import random
import unittest

from kerbside.errors import Missing, NotAllowed
from kerbside.finds import check_finds, open_ways, ways, with_find
from kerbside.yards import present, read_yard

from helpers import plain_open, random_finds, random_yard, sources_of, ways_of

SMALL = read_yard("2: +0 +1 P0,1 D2/2")
OUTSIDE = (-1, -2, 8, 10 ** 20)


class FindsCase(unittest.TestCase):
    def setUp(self):
        self.source = random.Random(101)

    def yards(self, many, deeds=8):
        for turn in range(many):
            yield random_yard(self.source, turn * 4 // many + 1, deeds)


class CheckTest(FindsCase):
    def refuse(self, yard, finds):
        with self.assertRaises(NotAllowed, msg=(yard, finds)):
            check_finds(yard, finds)

    def test_finds_pass(self):
        for yard in self.yards(80):
            for truthful in (True, False):
                self.assertIsNone(check_finds(yard, random_finds(self.source, yard, truthful)))
            self.assertIsNone(check_finds(yard, ()))
            self.assertIsNone(check_finds(yard, tuple((lot, True) for lot in range(len(sources_of(yard))))))

    def test_lots_that_there_are_not(self):
        for yard in ((1, ()), (4, ()), SMALL, read_yard("1: +0")):
            many = len(sources_of(yard))
            for lot in (many, many + 1) + OUTSIDE:
                for has in (True, False):
                    self.refuse(yard, ((lot, has),))
                    if many:
                        self.refuse(yard, tuple(sorted([(0, has), (lot, has)])))

    def test_lots_twice_or_out_of_order(self):
        for has in (True, False):
            for other in (True, False):
                for first, second in ((0, 0), (3, 3), (1, 0), (4, 2)):
                    self.refuse(SMALL, ((first, has), (second, other)))
                self.refuse(SMALL, ((0, has), (2, other), (1, has)))
                self.refuse(SMALL, ((1, has), (0, other), (2, has)))
                self.refuse(SMALL, ((0, has), (1, other), (1, has)))
                self.assertIsNone(check_finds(SMALL, ((0, has), (1, other), (4, has))))


class WaysTest(FindsCase):
    def test_known_ways(self):
        self.assertEqual(ways(SMALL, 0), [[0, 2, 3], [0, 2, 4]])
        self.assertEqual(ways(SMALL, 1), [[1, 2, 3], [1, 2, 4]])
        # The part 5 is poured into the lot 6 again, by a deed that names the later lot first.
        yard = read_yard("3: +2 +0 D0/3 P4,1 +2")
        self.assertEqual(ways(yard, 0), [[1, 5]])
        self.assertEqual(ways(yard, 1), [])
        self.assertEqual(ways(yard, 2), [[0, 2], [0, 3], [0, 4, 5], [6]])
        self.assertEqual([ways((2, ()), household) for household in (0, 1)], [[], []])

    def test_parts_that_are_poured_together_again(self):
        self.assertEqual(ways(read_yard("1: +0 D0/2 P2,1 D3/2"), 0), [[0, 1, 3, 4], [0, 1, 3, 5], [0, 2, 3, 4],
                                                                      [0, 2, 3, 5]])

    def test_against_the_definition(self):
        several = 0
        for yard in self.yards(160):
            for household in range(yard[0]):
                found = ways(yard, household)
                self.assertEqual(found, ways_of(yard, household), yard)
                self.assertIs(type(found), list)
                self.assertEqual([type(way) for way in found], [list] * len(found))
                several += len(found) > 2
        self.assertGreater(several, 40)

    def test_ascending_order(self):
        for yard in self.yards(80):
            for household in range(yard[0]):
                found = ways(yard, household)
                self.assertEqual(found, sorted(found))
                self.assertTrue(all(way[-1] in present(yard) for way in found))

    def test_missing(self):
        for yard in self.yards(20):
            finds = random_finds(self.source, yard)
            for household in (yard[0], yard[0] + 1, -1, -yard[0], 10 ** 20):
                with self.assertRaises(Missing):
                    ways(yard, household)
                with self.assertRaises(Missing):
                    open_ways(yard, finds, household)

    def test_lists_are_new(self):
        for call in (lambda: ways(SMALL, 1), lambda: open_ways(SMALL, ((3, False),), 1)):
            wanted = copy.deepcopy(call())
            found = call()
            found[0].append(7)
            found.append([1])
            self.assertEqual(call(), wanted)


class OpenWaysTest(FindsCase):
    def test_known_ways(self):
        for finds, wanted in (((), [[0, 2, 3], [0, 2, 4]]), (((3, True),), [[0, 2, 3], [0, 2, 4]]),
                              (((3, False),), [[0, 2, 4]]), (((1, False), (4, False)), [[0, 2, 3]]),
                              (((2, False),), []), (((0, False), (3, True)), []), (((3, False), (4, False)), [])):
            self.assertEqual(open_ways(SMALL, finds, 0), wanted)

    def test_against_the_definition(self):
        closed = 0
        for yard in self.yards(160):
            finds = random_finds(self.source, yard, self.source.random() < 0.5)
            for household in range(yard[0]):
                found = open_ways(yard, finds, household)
                self.assertEqual(found, plain_open(yard, finds, household))
                closed += found != ways(yard, household)
        self.assertGreater(closed, 40)

    def test_arguments_stay(self):
        finds = ((1, False), (4, True))
        kept = copy.deepcopy((SMALL, finds))
        for household in range(2):
            open_ways(SMALL, finds, household)
        check_finds(SMALL, finds)
        with_find(SMALL, finds, 2, True)
        self.assertEqual((SMALL, finds), kept)


class WithFindTest(FindsCase):
    def test_places(self):
        self.assertEqual(with_find(SMALL, (), 3, True), ((3, True),))
        finds = ((1, True), (3, False))
        self.assertEqual(with_find(SMALL, finds, 0, False), ((0, False), (1, True), (3, False)))
        self.assertEqual(with_find(SMALL, finds, 2, True), ((1, True), (2, True), (3, False)))
        self.assertEqual(with_find(SMALL, finds, 4, False), ((1, True), (3, False), (4, False)))

    def test_any_order_of_the_searches(self):
        for yard in self.yards(80):
            wanted = random_finds(self.source, yard, False)
            found = ()
            for lot, has in self.source.sample(wanted, len(wanted)):
                found = with_find(yard, found, lot, has)
                self.assertIs(type(found), tuple)
                self.assertIsNone(check_finds(yard, found))
            self.assertEqual(found, wanted)
            self.assertEqual([(type(lot), type(has)) for lot, has in found], [(int, bool)] * len(found))

    def test_missing(self):
        for yard in ((1, ()), SMALL, read_yard("1: +0 +0")):
            many = len(sources_of(yard))
            for lot in (many, many + 1) + OUTSIDE:
                for finds in ((), tuple((each, True) for each in range(many))):
                    with self.assertRaises(Missing):
                        with_find(yard, finds, lot, True)

    def test_lots_that_were_searched_already(self):
        finds = ((0, True), (3, False), (4, True))
        for lot in (0, 3, 4):
            for has in (True, False):
                with self.assertRaises(NotAllowed):
                    with_find(SMALL, finds, lot, has)


if __name__ == "__main__":
    unittest.main()
