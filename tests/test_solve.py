import random
import unittest

from kerbside.errors import BadPaper
from kerbside.papers import check_paper
from kerbside.solve import greatest

from helpers import (condition_of, corners, dot, form_of, fraction, fractions, is_right, pair_of, random_form,
                     random_ratio, random_row, random_system, row_of, turned)


class Solving(unittest.TestCase):
    def setUp(self):
        self.source = random.Random(31)

    def solve(self, system, form):
        """Returns a paper that has been judged by its definition."""
        paper = greatest(system, form)
        self.assertTrue(is_right(system, form, paper), (system, form, paper))
        self.assertIsNone(check_paper(system, form, paper))
        return paper


class GreatestTest(Solving):
    def test_examples(self):
        system = (2, ((((1, 1), (2, 1)), "<=", (6, 1)), (((1, 1), (0, 1)), "<=", (4, 1))))
        form = (((1, 1), (1, 1)), (0, 1))
        paper = self.solve(system, form)
        self.assertEqual(paper[:2], ("point", (5, 1)))
        with self.assertRaises(BadPaper):
            check_paper(system, form, ("point", (6, 1)) + paper[2:])
        self.assertEqual(self.solve((1, ()), (((1, 1),), (0, 1)))[0], "endless")
        self.assertEqual(self.solve((1, ((((1, 1),), "=", (-1, 1)),)), (((0, 1),), (0, 1)))[0], "never")

    def test_many_systems(self):
        kinds = {"point": 0, "endless": 0, "never": 0}
        for _ in range(600):
            width = self.source.randint(1, 10)
            system = random_system(self.source, width, self.source.randint(0, 12))
            kinds[self.solve(system, random_form(self.source, width))[0]] += 1
        for kind, many in kinds.items():
            self.assertGreater(many, 40, kind)

    def test_a_form_and_the_form_turned_round(self):
        for _ in range(200):
            width = self.source.randint(1, 8)
            system = random_system(self.source, width, self.source.randint(0, 9), 0.1)
            form = random_form(self.source, width)
            first, second = self.solve(system, form), self.solve(system, turned(form))
            self.assertEqual(first[0] == "never", second[0] == "never")
            if first[0] == second[0] == "point":
                self.assertGreaterEqual(fraction(first[1]), -fraction(second[1]))

    def test_small_systems_against_all_corners(self):
        for _ in range(150):
            width = self.source.randint(1, 3)
            system = random_system(self.source, width, self.source.randint(0, 5))
            form = random_form(self.source, width)
            paper = self.solve(system, form)
            points = corners(system)
            self.assertEqual(paper[0] == "never", points == [])
            if paper[0] == "point":
                values = [dot(fractions(form[0]), point) + fraction(form[1]) for point in points]
                self.assertEqual(fraction(paper[1]), max(values))

    def test_values_that_are_known(self):
        cases = [
            ((1, ()), form_of([0], 5), ("point", (5, 1))),
            ((1, ()), form_of([-1], 2), ("point", (2, 1))),
            ((1, (condition_of([0], "<=", 0),)), form_of([1]), ("endless",)),
            ((1, (condition_of([0], "<=", -1),)), form_of([1]), ("never",)),
            ((1, (condition_of([0], "=", 0),)), form_of([-1]), ("point", (0, 1))),
            ((1, (condition_of([0], "=", 1),)), form_of([0]), ("never",)),
            ((1, (condition_of([0], "=", -1),)), form_of([0]), ("never",)),
            ((1, (condition_of([-1], "<=", -3), condition_of([2], "<=", 6))), form_of([-1]), ("point", (-3, 1))),
            ((1, (condition_of([-1], "<=", -3), condition_of([2], "<=", 5))), form_of([0]), ("never",)),
            ((2, (condition_of([1, 1], "=", 3), condition_of([2, 2], "=", 6))), form_of([1, 0]), ("point", (3, 1))),
            ((2, (condition_of([1, 1], "=", 3), condition_of([2, 2], "=", 7))), form_of([1, 0]), ("never",)),
            ((2, (condition_of([1, -1], "=", 0),)), form_of([1, -1], 4), ("point", (4, 1))),
            ((2, (condition_of([1, -1], "=", 0),)), form_of([2, -1]), ("endless",)),
            ((2, (condition_of([-1, -1], "<=", -2), condition_of([1, 0], "<=", 1), condition_of([0, 1], "<=", 1))),
             form_of([5, 7]), ("point", (12, 1))),
        ]
        for system, form, start in cases:
            self.assertEqual(self.solve(system, form)[:len(start)], start)

    def test_a_system_that_makes_careless_searches_go_round(self):
        half = fraction((1, 2))
        system = (4, (condition_of([half, -fraction((11, 2)), -fraction((5, 2)), 9], "<=", 0),
                      condition_of([half, -fraction((3, 2)), -half, 1], "<=", 0), condition_of([1, 0, 0, 0], "<=", 1)))
        self.assertEqual(self.solve(system, form_of([10, -57, -9, -24]))[1], (1, 1))
        quarter = fraction((1, 4))
        system = (4, (condition_of([quarter, -60, -fraction((1, 25)), 9], "<=", 0),
                      condition_of([half, -90, -fraction((1, 50)), 3], "<=", 0), condition_of([0, 0, 1, 0], "<=", 1)))
        form = form_of([fraction((3, 4)), -150, fraction((1, 50)), -6])
        self.assertEqual(self.solve(system, form)[1], (1, 20))


class LargeTest(Solving):
    """The largest systems end, too."""

    def dense(self, width, many, relation, bound):
        return [(random_row(self.source, width), relation, bound()) for _ in range(many)]

    def test_random_systems(self):
        for _ in range(6):
            width, many = self.source.randint(20, 24), self.source.randint(20, 40)
            for equations in (0, 0.1):
                self.solve(random_system(self.source, width, many, equations), random_form(self.source, width))

    def test_points(self):
        for _ in range(6):
            width = self.source.randint(20, 24)
            cap = condition_of([1] * width, "<=", 100)
            for bound in (lambda: (self.source.randint(1, 9), 1), lambda: (0, 1)):
                system = (width, tuple(self.dense(width, 39, "<=", bound) + [cap]))
                self.assertEqual(self.solve(system, random_form(self.source, width))[0], "point")

    def test_systems_around_a_known_history(self):
        for _ in range(6):
            width = self.source.randint(20, 24)
            point = [abs(fraction(random_ratio(self.source))) for _ in range(width)]
            conditions = []
            for at in range(self.source.randint(20, 40)):
                row = random_row(self.source, width)
                room = 0 if at < 8 else self.source.randint(0, 2)
                conditions.append((row, "=" if at < 8 else "<=", pair_of(dot(fractions(row), point) + room)))
            form = random_form(self.source, width)
            paper = self.solve((width, tuple(conditions)), form)
            self.assertIn(paper[0], ("point", "endless"))
            if paper[0] == "point":
                self.assertGreaterEqual(fraction(paper[1]), dot(fractions(form[0]), point) + fraction(form[1]))

    def test_long_ways_round_a_cube(self):
        # In these cubes simple searches visit more than a million corners.
        for width in (20, 24):
            conditions = [condition_of([2 ** (at - place + 1) if place < at else int(place == at)
                                        for place in range(width)], "<=", 5 ** (at + 1)) for at in range(width)]
            form = form_of([2 ** (width - 1 - place) for place in range(width)])
            self.assertEqual(self.solve((width, tuple(conditions)), form)[1], (5 ** width, 1))

    def test_large_ratios(self):
        # The rows 1/1, 1/2, 1/3 .. have the only solution 1, 1, 1 .., but their inverse is huge.
        width = 20
        rows = [row_of(*[fraction((1, at + place + 1)) for place in range(width)]) for at in range(width)]
        system = (width, tuple((row, "=", pair_of(sum(fractions(row)))) for row in rows))
        form = form_of(list(range(1, width + 1)))
        paper = self.solve(system, form)
        self.assertEqual(paper[1:3], ((width * (width + 1) // 2, 1), row_of(*[1] * width)))
        figures = [random_row(self.source, width, 10 ** 9, 10 ** 9) for _ in range(4)]
        system = (width, tuple((row, "<=", (1, 7)) for row in figures) + (condition_of([1] * width, "<=", 1),))
        self.assertEqual(self.solve(system, random_form(self.source, width))[0], "point")


if __name__ == "__main__":
    unittest.main()
