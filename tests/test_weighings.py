import copy
import random
import unittest
from fractions import Fraction

from kerbside.errors import Never, NotAllowed
from kerbside.follow import history_of, span
from kerbside.papers import check_system, is_history
from kerbside.scales import counting, recalled
from kerbside.weighings import allows, check_weighing, ends, readings, weighing_conditions

from helpers import (does_count, dot, drawn_paper, errors_of, fraction, fractions, is_exact, keeps_all, pair_of,
                     plain_ends, row_of)

LITTLE = Fraction(1, 10 ** 30)
PAPER = (5, 20, (1, 2), (1, 10), (1, 4), 3)
NO_NAMES = ("", "abcde", "A", "a1", "a b", " a", "a-", "a\n", "{", "`")
NO_DAYS = (-1, -1000, 1000, 10 ** 20)


def pairs_of(*numbers):
    return tuple(None if number is None else pair_of(number) for number in numbers)


class Weighing(unittest.TestCase):
    def setUp(self):
        self.source = random.Random(61)

    def amount(self, size=20):
        return pair_of(Fraction(self.source.randint(0, size), self.source.randint(1, 4)))

    def drawer(self, most=4):
        """Returns a drawer of several scales, with papers that begin and end around the day 10."""
        entries = []
        for _ in range(self.source.randint(0, most)):
            first = self.source.randint(5, 11)
            paper = drawn_paper(self.source, first, self.source.randint(first, 14))
            until = self.source.choice((None, None, self.source.randint(5, 15)))
            entries.append((self.source.choice(("a", "a", "ab", "b")), paper, until))
        return tuple(entries)

    def held_drawer(self, many):
        """Returns a drawer of entries that all count for the scale a and the day 10, the last ones the strictest."""
        entries = []
        for place in range(many):
            zero, share = Fraction(2 * (many - place), 3), Fraction(many - place, 2 * many)
            entries.append(("a", (10, 10, pair_of(zero), pair_of(share), (1, 7), 10 - self.source.randint(0, 3)), None))
        return tuple(entries)

    def outcome(self, drawer, scale, day, reading):
        """Returns the ends as fractions, None for nothing between them."""
        try:
            low, high = ends(drawer, scale, day, reading)
        except Never:
            return None
        self.assertTrue(is_exact(low) and (high is None or is_exact(high)))
        return fraction(low), None if high is None else fraction(high)

    def wanted(self, drawer, scale, day, reading):
        low, high = plain_ends(drawer, scale, day, reading)
        return None if high is not None and low > high else (low, high)


class EndsTest(Weighing):
    def test_known_ends(self):
        one = (("a", PAPER, None),)
        # On the day 5 the slack is 1/2 + 2 * 1/4 = 1.
        self.assertEqual(ends(one, "a", 5, (12, 1)), ((10, 1), (130, 9)))
        self.assertEqual(ends(one, "a", 5, (1, 1)), ((0, 1), (20, 9)))
        self.assertEqual(ends(one, "a", 5, (0, 1)), ((0, 1), (10, 9)))
        self.assertEqual(ends(one, "a", 20, (23, 4)), ((10, 11), (35, 3)))
        exact = (("a", (0, 999, (0, 1), (0, 1), (0, 1), 0), None),)
        self.assertEqual(ends(exact, "a", 0, (7, 3)), ((7, 3), (7, 3)))
        self.assertEqual(ends(exact, "a", 999, (0, 1)), ((0, 1), (0, 1)))

    def test_without_entries_that_count(self):
        entry = ("a", PAPER, None)
        for drawer, scale, day in (((), "a", 5), ((entry,), "b", 5), ((entry,), "aa", 5), ((entry,), "a", 4),
                                   ((entry,), "a", 21), ((("a", PAPER, 5),), "a", 5), ((("a", PAPER, 0),), "a", 7)):
            for reading in ((0, 1), (7, 2), (10 ** 40, 3)):
                self.assertEqual(ends(drawer, scale, day, reading), ((0, 1), None))

    def test_against_plain_fractions(self):
        for _ in range(600):
            drawer, scale, day, reading = self.drawer(), self.source.choice(("a", "b", "ab", "c")), \
                self.source.randint(4, 15), self.amount()
            found = self.outcome(drawer, scale, day, reading)
            self.assertEqual(found, self.wanted(drawer, scale, day, reading), (drawer, scale, day, reading))

    def test_many_entries_the_last_ones_the_strictest(self):
        for many in range(8, 13):
            for _ in range(10):
                drawer, reading = self.held_drawer(many), self.amount(90)
                found = self.outcome(drawer, "a", 10, reading)
                self.assertEqual(found, self.wanted(drawer, "a", 10, reading))
                if found is not None:
                    self.assertNotEqual(found, self.wanted(drawer[:-1], "a", 10, reading))

    def test_days_at_the_ends_of_papers_and_at_recalls(self):
        drawer = (("a", PAPER, 12), ("a", (8, 12, (0, 1), (0, 1), (0, 1), 8), 10))
        for day, wanted in ((4, (0, None)), (5, (10, Fraction(130, 9))), (7, (Fraction(105, 11), 15)), (8, (12, 12)),
                            (9, (12, 12)), (10, (Fraction(39, 4) / Fraction(11, 10), Fraction(57, 4) / Fraction(9, 10))),
                            (11, (Fraction(95, 11), Fraction(145, 9))), (12, (0, None)), (20, (0, None))):
            self.assertEqual(ends(drawer, "a", day, (12, 1)), pairs_of(*wanted), day)

    def test_something_is_left_wherever_slacks_are_not_below_zero(self):
        # The reading itself lies between the ends then, however strict the entries are.
        strict = ("a", (0, 9, (0, 1), (0, 1), (0, 1), 0), None)
        for _ in range(200):
            drawer, reading = self.drawer() + (strict,), self.amount()
            self.assertEqual(ends(drawer, "a", self.source.randint(0, 9), reading), (reading, reading))

    def test_nothing_is_left(self):
        # No drawer comes to this, as no slack of a paper is below 0; so here is one that no paper has.
        drawer = (("a", (0, 9, (-1, 1), (0, 1), (0, 1), 0), None),)
        for entries in (drawer, drawer + (("a", PAPER, None),), (("a", PAPER, None),) + drawer):
            with self.assertRaises(Never):
                ends(entries, "a", 5, (4, 1))

    def test_below_zero_is_nothing(self):
        paper = (0, 9, (5, 1), (1, 3), (0, 1), 0)
        self.assertEqual(ends((("a", paper, None),), "a", 0, (4, 1)), ((0, 1), (27, 2)))

    def test_errors_in_order(self):
        drawer = (("a", (0, 999, (0, 1), (0, 1), (0, 1), 0), None),)
        for call in (lambda name, day, pair: ends(drawer, name, day, pair),
                     lambda name, day, pair: readings(drawer, name, day, pair),
                     lambda name, day, pair: allows(drawer, name, day, pair, (1, 1)),
                     lambda name, day, pair: allows(drawer, name, day, (1, 1), pair),
                     lambda name, day, pair: counting(drawer, name, day)):
            for name in NO_NAMES:
                with self.assertRaises(NotAllowed):
                    call(name, 5, (1, 1))
            for day in NO_DAYS:
                with self.assertRaises(NotAllowed):
                    call("a", day, (1, 1))
            self.assertIsNotNone(call("a", 0, (0, 1)))
            self.assertIsNotNone(call("zzzz", 999, (0, 1)))
        for pair in ((-1, 1), (-1, 10 ** 40), (-10 ** 40, 1)):
            for drawer in (drawer, ()):
                for call in (lambda: ends(drawer, "a", 5, pair), lambda: readings(drawer, "a", 5, pair),
                             lambda: allows(drawer, "a", 5, pair, (1, 1)),
                             lambda: allows(drawer, "a", 5, (1, 1), pair), lambda: allows(drawer, "a", 5, pair, pair)):
                    with self.assertRaises(NotAllowed):
                        call()


class AllowsTest(Weighing):
    def between(self, number, low, high):
        return low <= number and (high is None or number <= high)

    def test_just_the_weights_between_the_ends(self):
        for _ in range(250):
            drawer, day, reading = self.drawer(), self.source.randint(8, 12), self.amount()
            low, high = plain_ends(drawer, "a", day, reading)
            weights = [low, low + LITTLE, low - LITTLE, fraction(reading), Fraction(0), Fraction(10 ** 30)]
            weights += [] if high is None else [high, high + LITTLE, high - LITTLE, (low + high) / 2]
            weights += [Fraction(step, 3) for step in range(0, 60, 7)]
            for weight in weights:
                if weight >= 0:
                    found = allows(drawer, "a", day, reading, pair_of(weight))
                    self.assertIs(found, self.between(weight, low, high), (drawer, day, reading, weight))

    def test_by_what_each_entry_says(self):
        for _ in range(250):
            drawer, day, reading, weight = self.drawer(), self.source.randint(8, 12), self.amount(), self.amount()
            gap = abs(fraction(reading) - fraction(weight))
            said = [gap <= slack + share * fraction(weight) for slack, share in errors_of(drawer, "a", day)]
            self.assertIs(allows(drawer, "a", day, reading, weight), all(said))

    def test_many_entries(self):
        for many in range(8, 13):
            drawer = self.held_drawer(many)
            slack, share = errors_of(drawer, "a", 10)[-1]
            for weight in (Fraction(0), Fraction(5), Fraction(700, 3)):
                most = min(slack + share * weight for slack, share in errors_of(drawer, "a", 10))
                for gap, right in ((most, True), (most + LITTLE, False), (most - LITTLE, True)):
                    for reading in (weight + gap, weight - gap):
                        if reading >= 0:
                            self.assertIs(allows(drawer, "a", 10, pair_of(reading), pair_of(weight)), right)

    def test_great_and_small_numbers(self):
        drawer = (("a", (0, 9, (0, 1), (1, 10 ** 20), (0, 1), 0), None),)
        for size in (10 ** 40, Fraction(1, 10 ** 40)):
            weight, share = Fraction(size), Fraction(1, 10 ** 20)
            for reading, right in ((weight * (1 + share), True), (weight * (1 - share), True),
                                   (weight * (1 + share + share ** 3), False),
                                   (weight * (1 - share - share ** 3), False)):
                self.assertIs(allows(drawer, "a", 5, pair_of(reading), pair_of(weight)), right)
                low, high = ends(drawer, "a", 5, pair_of(reading))
                self.assertIs(fraction(low) <= weight <= fraction(high), right)
                low, high = readings(drawer, "a", 5, pair_of(weight))
                self.assertIs(fraction(low) <= reading <= fraction(high), right)


class ReadingsTest(Weighing):
    def test_known_ends(self):
        one = (("a", PAPER, None),)
        self.assertEqual(readings(one, "a", 5, (10, 1)), ((8, 1), (12, 1)))
        self.assertEqual(readings(one, "a", 5, (1, 1)), ((0, 1), (21, 10)))
        self.assertEqual(readings(one, "a", 4, (10, 1)), ((0, 1), None))
        self.assertEqual(readings(one, "b", 5, (10, 1)), ((0, 1), None))
        self.assertEqual(readings((), "b", 5, (0, 1)), ((0, 1), None))

    def test_ends(self):
        for _ in range(400):
            drawer = self.drawer() if self.source.random() < 0.8 else self.held_drawer(self.source.randint(8, 12))
            day, weight = self.source.randint(8, 12), self.amount()
            low, high = readings(drawer, "a", day, weight)
            number = fraction(weight)
            margins = [slack + share * number for slack, share in errors_of(drawer, "a", day)]
            self.assertEqual(low, pair_of(max([number - margin for margin in margins] + [Fraction(0)])))
            self.assertEqual(high, pair_of(min(number + margin for margin in margins)) if margins else None)
            self.assertTrue(is_exact(low) and (high is None or is_exact(high)))
            self.assertLessEqual(fraction(low), number)
            if high is not None:
                self.assertLessEqual(number, fraction(high))

    def test_just_what_is_allowed(self):
        for _ in range(200):
            drawer, day, weight = self.drawer(), self.source.randint(8, 12), self.amount()
            low, high = readings(drawer, "a", day, weight)
            tried = [fraction(low), fraction(low) - LITTLE, Fraction(10 ** 30), fraction(self.amount())]
            tried += [] if high is None else [fraction(high), fraction(high) + LITTLE]
            for reading in tried:
                if reading < 0:
                    continue
                lies = fraction(low) <= reading and (high is None or reading <= fraction(high))
                self.assertIs(allows(drawer, "a", day, pair_of(reading), weight), lies)
                found = self.outcome(drawer, "a", day, pair_of(reading))
                self.assertIs(found is not None and found[0] <= fraction(weight)
                              and (found[1] is None or fraction(weight) <= found[1]), lies)


class CheckTest(unittest.TestCase):
    GOOD = ("ab", 12, (0, 3), (7, 2))

    def test_weighings_pass(self):
        for weighing in (self.GOOD, ("z", 0, (0,), (0, 1)), ("abcd", 999, (99,), (10 ** 40, 3)),
                         ("a", 1, tuple(range(8)), (1, 1)), ("a", 1, (0, 13, 27, 41, 55, 70, 98, 99), (1, 1))):
            self.assertIsNone(check_weighing(weighing))

    def test_wrong_parts(self):
        scale, day, lots, reading = self.GOOD
        wrong = [(name, day, lots, reading) for name in NO_NAMES]
        wrong += [(scale, number, lots, reading) for number in NO_DAYS]
        wrong += [(scale, day, others, reading) for others in (
            (), tuple(range(9)), (0, 0), (3, 3, 4), (1, 2, 2), (3, 0), (0, 2, 1), (-1,), (-1, 3), (100,), (0, 100),
            (1, 10 ** 20), (99, 100), tuple(range(50)))]
        wrong += [(scale, day, lots, pair) for pair in (
            (-1, 1), (-1, 10 ** 40), (2, 4), (0, 2), (1, 0), (0, 0), (1, -2), (-1, -2))]
        for weighing in wrong:
            with self.assertRaises(NotAllowed, msg=str(weighing)):
                check_weighing(weighing)


class ConditionsTest(Weighing):
    def plain_conditions(self, drawer, weighing, places, width):
        scale, day, _, reading = weighing
        found = []
        for slack, share in errors_of(drawer, scale, day):
            for factor, bound in ((1 - share, fraction(reading) + slack), (-1 - share, slack - fraction(reading))):
                row = tuple(pair_of(factor if place in places else 0) for place in range(width))
                found.append((row, "<=", pair_of(bound)))
        return found

    def test_a_known_list(self):
        drawer = (("b", PAPER, None), ("a", PAPER, None), ("a", PAPER, 5), ("a", (0, 9, (1, 1), (0, 1), (0, 1), 0), 6))
        self.assertEqual(weighing_conditions(drawer, ("a", 5, (0, 3), (4, 1)), [2, 0], 3),
                         [(((9, 10), (0, 1), (9, 10)), "<=", (5, 1)), (((-11, 10), (0, 1), (-11, 10)), "<=", (-3, 1)),
                          (((1, 1), (0, 1), (1, 1)), "<=", (5, 1)), (((-1, 1), (0, 1), (-1, 1)), "<=", (-3, 1))])
        self.assertEqual(weighing_conditions(drawer, ("a", 21, (0, 3), (4, 1)), [2, 0], 3), [])
        self.assertEqual(weighing_conditions((), ("a", 21, (0, 3), (4, 1)), [], 1), [])
        self.assertEqual(weighing_conditions(drawer, ("b", 5, (7,), (0, 1)), [], 2),
                         [(((0, 1), (0, 1)), "<=", (1, 1)), (((0, 1), (0, 1)), "<=", (1, 1))])

    def test_the_list_of_the_document(self):
        for _ in range(300):
            drawer = self.drawer() if self.source.random() < 0.8 else self.held_drawer(self.source.randint(8, 12))
            weighing = (self.source.choice(("a", "b")), self.source.randint(8, 12), (0, 5), self.amount())
            width = self.source.choice((1, 2, 5, 24))
            places = self.source.sample(range(width), self.source.randint(0, width))
            found = weighing_conditions(drawer, weighing, places, width)
            self.assertEqual(found, self.plain_conditions(drawer, weighing, places, width))
            check_system((width, tuple(found[:40])))

    def test_rows_between_the_ends(self):
        for _ in range(200):
            drawer, day, reading, width = self.drawer(), self.source.randint(8, 12), self.amount(), 3
            places = self.source.sample(range(width), self.source.randint(1, width))
            low, high = plain_ends(drawer, "a", day, reading)
            system = (width, tuple(weighing_conditions(drawer, ("a", day, (4,), reading), places, width)))
            for total in {low, low - LITTLE, high, high and high + LITTLE, Fraction(7), Fraction(3, 2)} - {None}:
                row = [Fraction(self.source.randint(0, 9)) for _ in range(width)]
                for place in places:
                    row[place] = total / len(places)
                if total >= 0:
                    right = low <= total and (high is None or total <= high)
                    self.assertIs(is_history(system, row_of(*row)), right)

    def test_no_places_keep_what_nothing_can_weigh(self):
        drawer = (("a", PAPER, None),)
        for reading, right in (((1, 1), True), ((101, 100), False), ((0, 1), True)):
            system = (2, tuple(weighing_conditions(drawer, ("a", 5, (4,), reading), [], 2)))
            self.assertIs(is_history(system, row_of(5, 9)), right)

    def test_wrong_places(self):
        for drawer in ((), (("a", PAPER, None),)):
            for places, width in (([-1], 3), ([3], 3), ([0, 3], 3), ([0, 1, -1], 3), ([0, 0], 3), ([2, 1, 2], 3),
                                  ([1], 1), ([24], 24), ([10 ** 20], 24)):
                with self.assertRaises(NotAllowed):
                    weighing_conditions(drawer, ("a", 5, (4,), (1, 1)), places, width)
                    self.fail((places, width))

    def test_arguments_and_results(self):
        drawer, places = (("a", PAPER, None),), [2, 0, 1]
        kept = copy.deepcopy((drawer, places))
        found = weighing_conditions(drawer, ("a", 5, (4,), (1, 1)), places, 4)
        wanted = list(found)
        found.clear()
        self.assertEqual(weighing_conditions(drawer, ("a", 5, (4,), (1, 1)), places, 4), wanted)
        self.assertEqual((drawer, places), kept)


class ChangeTest(Weighing):
    def narrower(self, first, second):
        """Tells whether the first outcome lies within the second one."""
        if first is None:
            return True
        if second is None:
            return False
        return first[0] >= second[0] and (second[1] is None or (first[1] is not None and first[1] <= second[1]))

    def test_a_recall(self):
        for _ in range(300):
            drawer, reading = self.drawer() or (("a", PAPER, None),), self.amount()
            index, day = self.source.randrange(len(drawer)), self.source.randint(4, 15)
            behind = recalled(drawer, index, day)
            name, paper, until = drawer[index]
            left = drawer[:index] + drawer[index + 1:]
            if paper[0] < day:
                shorter = (paper[0], min(paper[1], day - 1)) + paper[2:]
                left = drawer[:index] + ((name, shorter, until),) + drawer[index + 1:]
            for asked in range(4, 16):
                found = self.outcome(behind, name, asked, reading)
                self.assertEqual(found, self.outcome(left, name, asked, reading))
                self.assertTrue(self.narrower(self.outcome(drawer, name, asked, reading), found))

    def test_a_further_entry(self):
        for _ in range(300):
            drawer, reading, day = self.drawer(), self.amount(), self.source.randint(8, 12)
            further = drawer + (self.drawer() or (("a", PAPER, None),))
            before, found = (self.outcome(each, "a", day, reading) for each in (drawer, further))
            self.assertTrue(self.narrower(found, before))
            if before is None:
                self.assertIsNone(found)

    def test_order_and_doubles(self):
        for _ in range(150):
            drawer, reading, day = self.drawer(), self.amount(), self.source.randint(8, 12)
            wanted = self.outcome(drawer, "a", day, reading)
            for other in (drawer[::-1], drawer + drawer[:1], drawer[1:] + drawer[:1]):
                self.assertEqual(self.outcome(other, "a", day, reading), wanted)


class SystemTest(Weighing):
    """The conditions of weighings leave a sum just what the ends leave."""

    def test_one_and_two_weighings(self):
        nothing = 0
        for _ in range(200):
            width = self.source.randint(1, 4)
            places = self.source.sample(range(width), self.source.randint(1, width))
            drawer = self.drawer() + tuple((name, drawn_paper(self.source, 8, 12), None) for name in ("a", "ab"))
            conditions, low, high = [], Fraction(0), None
            for scale in ("a", "ab")[:self.source.randint(1, 2)]:
                day, reading = self.source.randint(8, 12), self.amount(12)
                conditions += weighing_conditions(drawer, (scale, day, (4,), reading), places, width)
                ends_now = plain_ends(drawer, scale, day, reading)
                low = max(low, ends_now[0])
                high = min([end for end in (high, ends_now[1]) if end is not None], default=None)
            form = (row_of(*[int(place in places) for place in range(width)]), (0, 1))
            system = (width, tuple(conditions))
            if high is not None and low > high:
                nothing += 1
                for call in (lambda: span(system, form), lambda: history_of(system)):
                    with self.assertRaises(Never):
                        call()
                continue
            self.assertEqual(span(system, form), pairs_of(low, high))
            history = fractions(history_of(system))
            self.assertTrue(keeps_all(conditions, history))
            self.assertTrue(low <= dot(fractions(form[0]), history))
        self.assertGreater(nothing, 5)

    def test_counting_is_what_counts(self):
        for _ in range(100):
            drawer, day = self.drawer(8), self.source.randint(4, 15)
            self.assertEqual(counting(drawer, "a", day),
                             [index for index, entry in enumerate(drawer) if does_count(entry, "a", day)])


if __name__ == "__main__":
    unittest.main()
