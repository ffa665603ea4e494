import random
import unittest
from fractions import Fraction

from kerbside.errors import Never
from kerbside.follow import certain, fixed_values, history_of, possible, slim, span, spare_conditions
from kerbside.papers import is_history

from helpers import (condition_of, corners, dot, form_of, fraction, fractions, is_exact_row, keeps_all, pair_of,
                     random_form, random_ratio, random_row, random_system, row_of, sum_of_conditions)

LITTLE = Fraction(1, 10 ** 30)
NEVER_SYSTEMS = [
    (1, (condition_of([1], "=", -1),)),
    (1, (condition_of([1], "<=", -1),)),
    (1, (condition_of([0], "=", 1),)),
    (2, (condition_of([1, 1], "<=", 2), condition_of([-1, 0], "<=", -1), condition_of([0, -1], "<=", -2))),
    (2, (condition_of([1, 1], "=", 2), condition_of([2, 2], "=", 5))),
]


def capped(system):
    """Returns the system with a cap for all unknowns, so that all forms have both ends."""
    width, conditions = system
    return (width, conditions + (condition_of([1] * width, "<=", 7),))


def values_at(points, row):
    return [dot(fractions(row), point) for point in points]


class FollowTest(unittest.TestCase):
    def setUp(self):
        self.source = random.Random(41)

    def systems(self, many, width=3, size=4):
        for _ in range(many):
            yield random_system(self.source, self.source.randint(1, width), self.source.randint(0, size))

    def test_examples(self):
        system = (2, ((((1, 1), (1, 1)), "=", (3, 1)), (((1, 1), (0, 1)), "<=", (5, 1)),
                      (((0, 1), (1, 1)), "=", (1, 1))))
        self.assertEqual(span(system, (((2, 1), (0, 1)), (1, 2))), ((9, 2), (9, 2)))
        self.assertEqual(fixed_values(system), [(2, 1), (1, 1)])
        self.assertIs(certain(system, (((1, 1), (0, 1)), "<=", (2, 1))), True)
        self.assertEqual(slim(system), (2, ((((1, 1), (1, 1)), "=", (3, 1)), (((0, 1), (1, 1)), "=", (1, 1)))))

    def test_without_history(self):
        for system in NEVER_SYSTEMS:
            width = system[0]
            condition = condition_of([0] * width, "<=", 0)
            for call in (lambda: history_of(system), lambda: span(system, form_of([0] * width)),
                         lambda: certain(system, condition), lambda: fixed_values(system)):
                with self.assertRaises(Never):
                    call()
            self.assertIs(possible(system, condition), False)

    def test_history_of(self):
        for system in self.systems(150, 6, 7):
            try:
                history = history_of(system)
            except Never:
                self.assertEqual(corners(system) if system[0] <= 3 else [], [])
                continue
            self.assertTrue(is_exact_row(history, system[0]))
            self.assertTrue(keeps_all(system[1], fractions(history)))
            self.assertIs(is_history(system, history), True)

    def test_spans_against_all_corners(self):
        for system in self.systems(120):
            system = capped(system)
            points = corners(system)
            form = random_form(self.source, system[0])
            if points == []:
                with self.assertRaises(Never):
                    span(system, form)
                continue
            values = [value + fraction(form[1]) for value in values_at(points, form[0])]
            self.assertEqual(span(system, form), (pair_of(min(values)), pair_of(max(values))))

    def test_ends_that_there_are_not(self):
        free = (2, (condition_of([1, 0], "<=", 3),))
        for numbers, ends in (([1, 0], ((1, 1), (4, 1))), ([0, 1], ((1, 1), None)), ([0, -1], (None, (1, 1))),
                              ([1, -1], (None, (4, 1))), ([-1, 1], ((-2, 1), None)), ([0, 0], ((1, 1), (1, 1)))):
            self.assertEqual(span(free, form_of(numbers, 1)), ends)
        line = (2, (condition_of([1, -1], "=", 0),))
        self.assertEqual(span(line, form_of([1, -1])), ((0, 1), (0, 1)))
        self.assertEqual(span((3, (condition_of([1, -1, 0], "<=", 1),)), form_of([1, 0, -1])), (None, None))

    def test_conditions_around_the_ends(self):
        for system in self.systems(60):
            system = capped(system)
            points = corners(system)
            row = random_row(self.source, system[0])
            if points == []:
                continue
            values = values_at(points, row)
            least, most = min(values), max(values)
            for bound in {least - LITTLE, least, least + LITTLE, (least + most) / 2, most - LITTLE, most,
                          most + LITTLE}:
                at_most, just = (row, "<=", pair_of(bound)), (row, "=", pair_of(bound))
                self.assertIs(certain(system, at_most), most <= bound)
                self.assertIs(possible(system, at_most), least <= bound)
                self.assertIs(certain(system, just), least == most == bound)
                self.assertIs(possible(system, just), least <= bound <= most)

    def test_certain_without_ends(self):
        system = (2, (condition_of([1, -1], "=", 0),))
        for numbers, relation, bound, right in (([1, 0], "<=", 10 ** 40, False), ([-1, 0], "<=", 0, True),
                                                ([-1, 0], "<=", -LITTLE, False), ([1, -1], "=", 0, True),
                                                ([1, -1], "<=", 0, True), ([1, -1], "=", LITTLE, False),
                                                ([1, 0], "=", 0, False), ([-1, 0], "=", 0, False)):
            self.assertIs(certain(system, condition_of(numbers, relation, bound)), right)

    def test_possible_with_one_more_than_forty(self):
        width = 24
        full = (width, tuple(condition_of([1] * width, "<=", 40 + at) for at in range(40)))
        self.assertIs(possible(full, condition_of([1] * width, "=", 40)), True)
        self.assertIs(possible(full, condition_of([-1] * width, "<=", -40)), True)
        self.assertIs(possible(full, condition_of([-1] * width, "<=", -40 - LITTLE)), False)
        self.assertIs(possible(full, condition_of([1] * width, "=", 40 + LITTLE)), False)

    def test_fixed_values(self):
        for system in self.systems(120):
            system = capped(system)
            points = corners(system)
            if points == []:
                with self.assertRaises(Never):
                    fixed_values(system)
                continue
            wanted = []
            for index in range(system[0]):
                values = [point[index] for point in points]
                wanted.append(pair_of(values[0]) if min(values) == max(values) else None)
            self.assertEqual(fixed_values(system), wanted)

    def test_fixed_beside_endless(self):
        system = (4, (condition_of([2, 0, 0, 0], "=", 3), condition_of([0, 1, 0, 1], "<=", 0)))
        self.assertEqual(fixed_values(system), [(3, 2), (0, 1), None, (0, 1)])
        self.assertEqual(fixed_values((2, ())), [None, None])


class SpareTest(unittest.TestCase):
    def setUp(self):
        self.source = random.Random(42)

    def left_out(self, system, index):
        return (system[0], system[1][:index] + system[1][index + 1:])

    def is_spare(self, system, index):
        """Tells by corners whether a condition is spare; the system has to have ends without it."""
        rest = self.left_out(system, index)
        row, relation, bound = system[1][index]
        values = values_at(corners(rest), row)
        return all(value == fraction(bound) or (relation == "<=" and value < fraction(bound)) for value in values)

    def boxed(self):
        """Returns a system that has ends without any of its conditions."""
        width = self.source.randint(1, 3)
        system = random_system(self.source, width, self.source.randint(0, 3))
        cap = condition_of([1] * width, "<=", 7)
        conditions = [cap] + list(system[1]) + [self.source.choice([cap, condition_of([1] * width, "<=", 8)])]
        self.source.shuffle(conditions)
        return (width, tuple(conditions))

    def test_against_all_corners(self):
        for _ in range(80):
            system = self.boxed()
            wanted = [index for index in range(len(system[1])) if self.is_spare(system, index)]
            self.assertEqual(spare_conditions(system), wanted)
            slimmed = system
            for index in reversed(range(len(system[1]))):
                if index in spare_conditions(slimmed):
                    slimmed = self.left_out(slimmed, index)
            self.assertEqual(slim(system), slimmed)

    def test_no_condition_of_a_slim_system_is_spare(self):
        for _ in range(60):
            width = self.source.randint(1, 6)
            system = random_system(self.source, width, self.source.randint(0, 8))
            slimmed = slim(system)
            self.assertEqual(spare_conditions(slimmed), [])
            self.assertEqual(slim(slimmed), slimmed)
            self.same_histories(system, slimmed)

    def same_histories(self, system, slimmed):
        condition = condition_of([0] * system[0], "<=", 0)
        self.assertEqual(possible(system, condition), possible(slimmed, condition))
        if possible(system, condition):
            for left_out in system[1]:
                self.assertIs(certain(slimmed, left_out), True)

    def test_twice_sums_and_weaker_ones(self):
        first, second = condition_of([1, 0], "<=", 2), condition_of([0, 1], "<=", 3)
        both, weak = sum_of_conditions(first, second), condition_of([1, 0], "<=", 2 + LITTLE)
        self.assertEqual(both, condition_of([1, 1], "<=", 5))
        for conditions, spare, left in (
                ((first, first), [0, 1], (first,)), ((first, second), [], (first, second)),
                ((both, first, second), [0], (first, second)), ((first, second, both), [2], (first, second)),
                ((weak, first), [0], (first,)), ((first, weak), [1], (first,)),
                ((first, weak, first), [0, 1, 2], (first,)), ((weak, weak), [0, 1], (weak,)),
                ((condition_of([0, 0], "=", 0), condition_of([0, 0], "<=", 1)), [0, 1], ()),
                ((condition_of([-1, 0], "<=", 0), first), [0], (first,)),
                ((condition_of([1, 1], "=", 2), condition_of([2, 2], "=", 4), condition_of([1, 1], "<=", 2)),
                 [0, 1, 2], (condition_of([1, 1], "=", 2),)),
                ((condition_of([1, 0], "=", 1), first), [1], (condition_of([1, 0], "=", 1),)),
                ((first, condition_of([1, 0], "=", 2)), [0], (condition_of([1, 0], "=", 2),)),
                ((condition_of([1, 0], "<=", 2), condition_of([-1, 0], "<=", -2), condition_of([1, 0], "=", 2)),
                 [0, 1, 2], (condition_of([1, 0], "<=", 2), condition_of([-1, 0], "<=", -2)))):
            self.assertEqual(spare_conditions((2, conditions)), spare, conditions)
            self.assertEqual(slim((2, conditions)), (2, left), conditions)

    def test_without_history(self):
        wrong, other = condition_of([1], "<=", -1), condition_of([1], "=", -2)
        loose, low = condition_of([1], "<=", 5), condition_of([-1], "<=", -6)
        for conditions, spare, left in (((wrong,), [], (wrong,)), ((wrong, loose), [1], (wrong,)),
                                        ((loose, wrong), [0], (wrong,)), ((wrong, other), [0, 1], (wrong,)),
                                        ((other, wrong, loose), [0, 1, 2], (other,)),
                                        ((loose, low), [], (loose, low)), ((loose, low, wrong), [0, 1, 2], (loose, low)),
                                        ((wrong, loose, low), [0, 1, 2], (wrong,))):
            self.assertEqual(spare_conditions((1, conditions)), spare, conditions)
            self.assertEqual(slim((1, conditions)), (1, left), conditions)

    def test_large_systems(self):
        width = 22
        point = [abs(fraction(random_ratio(self.source))) for _ in range(width)]
        rows = [random_row(self.source, width) for _ in range(24)]
        conditions = [(row, "<=", pair_of(dot(fractions(row), point) + 1)) for row in rows]
        doubles = [(row, "<=", pair_of(fraction(bound) + 1)) for row, _, bound in conditions]
        system = (width, tuple(conditions + doubles[:16]))
        self.assertEqual([index for index in spare_conditions(system) if index >= 24], list(range(24, 40)))
        self.assertTrue(set(slim(system)[1]) <= set(conditions))


class ResultTest(unittest.TestCase):
    def test_lists_are_new(self):
        system = (1, (condition_of([1], "=", 2), condition_of([1], "<=", 3)))
        for call in (fixed_values, spare_conditions):
            found = call(system)
            kept = list(found)
            found.append(7)
            self.assertEqual(call(system), kept)

    def test_kinds(self):
        system = (2, (condition_of([1, 0], "=", 2),))
        self.assertIs(type(span(system, form_of([1, 0]))), tuple)
        self.assertIs(type(history_of(system)), tuple)
        self.assertIs(type(slim(system)), tuple)
        self.assertEqual(history_of(system)[0], row_of(2)[0])


if __name__ == "__main__":
    unittest.main()
