import random
import unittest

from kerbside.errors import NotAllowed
from kerbside.rows import (MAX_WIDTH, add_forms, add_rows, check_row, product, row_of_ints, scale_form, scale_row,
                           unit_row, value_at, zero_row)

from helpers import dot, fraction, fractions, is_exact, is_exact_row, random_form, random_ratio, random_row, row_of

WIDTHS = (1, 2, 3, 10, 23, 24)
ALL_ZERO = (0, 1)


class RowTest(unittest.TestCase):
    def setUp(self):
        self.source = random.Random(11)

    def rows(self, width, many=6):
        return [random_row(self.source, width, 10 ** 20, 10 ** 20) for _ in range(many)] + [row_of(*[0] * width)]

    def test_examples(self):
        self.assertEqual(product(row_of_ints([1, 2]), ((1, 2), (3, 1))), (13, 2))
        self.assertEqual(value_at((row_of_ints([1, 2]), (1, 2)), row_of_ints([3, 0])), (7, 2))
        with self.assertRaises(NotAllowed):
            add_rows(row_of_ints([1]), row_of_ints([1, 2]))

    def test_check_row(self):
        self.assertEqual(MAX_WIDTH, 24)
        for width in WIDTHS:
            for row in self.rows(width):
                self.assertIsNone(check_row(row))
        for width in (0, 25, 26, 100):
            with self.assertRaises(NotAllowed):
                check_row(((1, 1),) * width)

    def test_check_row_finds_pairs_that_are_no_ratios(self):
        for width in WIDTHS:
            row = self.rows(width)[0]
            for place in range(width):
                for pair in ((2, 4), (0, 2), (1, 0), (1, -1), (0, 0), (-3, -1), (3, 3)):
                    with self.assertRaises(NotAllowed):
                        check_row(row[:place] + (pair,) + row[place + 1:])

    def test_zero_and_unit_rows(self):
        for width in range(1, 25):
            self.assertEqual(zero_row(width), row_of(*[0] * width))
            for index in range(width):
                self.assertEqual(unit_row(width, index), row_of(*[int(place == index) for place in range(width)]))
            for index in (-1, -width, width, width + 1, 99):
                with self.assertRaises(NotAllowed):
                    unit_row(width, index)
        for width in (-24, -1, 0, 25, 1000):
            with self.assertRaises(NotAllowed):
                zero_row(width)
            for index in (-1, 0, width - 1):
                with self.assertRaises(NotAllowed):
                    unit_row(width, index)

    def test_row_of_ints(self):
        for width in WIDTHS:
            numbers = [self.source.randint(-10 ** 30, 10 ** 30) for _ in range(width)]
            kept = list(numbers)
            row = row_of_ints(numbers)
            self.assertEqual(row, row_of(*numbers))
            self.assertEqual(numbers, kept)
            numbers[0] = 77
            self.assertEqual(row, row_of(*kept))
        for width in (0, 25, 60):
            with self.assertRaises(NotAllowed):
                row_of_ints([1] * width)

    def test_add_rows(self):
        for width in WIDTHS:
            for first in self.rows(width):
                for second in self.rows(width):
                    total = add_rows(first, second)
                    self.assertTrue(is_exact_row(total, width))
                    self.assertEqual(fractions(total), [a + b for a, b in zip(fractions(first), fractions(second))])

    def test_scale_row(self):
        for width in WIDTHS:
            for row in self.rows(width):
                for factor in (ALL_ZERO, (1, 1), (-1, 1), random_ratio(self.source, 10 ** 40, 10 ** 40)):
                    scaled = scale_row(factor, row)
                    self.assertTrue(is_exact_row(scaled, width))
                    self.assertEqual(fractions(scaled), [fraction(factor) * number for number in fractions(row)])

    def test_product(self):
        for width in WIDTHS:
            for first in self.rows(width):
                for second in self.rows(width):
                    found = product(first, second)
                    self.assertTrue(is_exact(found))
                    self.assertEqual(fraction(found), dot(fractions(first), fractions(second)))

    def test_two_widths(self):
        for first in WIDTHS:
            for second in WIDTHS:
                if first == second:
                    continue
                rows = zero_row(first), zero_row(second)
                for call in (add_rows, product):
                    with self.assertRaises(NotAllowed):
                        call(*rows)
                with self.assertRaises(NotAllowed):
                    value_at((rows[0], (1, 1)), rows[1])
                with self.assertRaises(NotAllowed):
                    add_forms((rows[0], (1, 1)), (rows[1], (1, 1)))


class FormTest(unittest.TestCase):
    def setUp(self):
        self.source = random.Random(12)

    def test_the_constant_counts_once(self):
        for width in WIDTHS:
            form = (zero_row(width), (5, 3))
            self.assertEqual(value_at(form, row_of_ints([7] * width)), (5, 3))
            self.assertEqual(value_at((unit_row(width, 0), (5, 3)), row_of_ints([7] * width)), (26, 3))

    def test_value_of_sums_and_multiples(self):
        for width in WIDTHS:
            for _ in range(20):
                first, second = random_form(self.source, width), random_form(self.source, width)
                row, factor = random_row(self.source, width), random_ratio(self.source)
                one = dot(fractions(first[0]), fractions(row)) + fraction(first[1])
                other = dot(fractions(second[0]), fractions(row)) + fraction(second[1])
                self.assertTrue(is_exact(value_at(first, row)))
                self.assertEqual(fraction(value_at(first, row)), one)
                total, scaled = add_forms(first, second), scale_form(factor, first)
                for form in (total, scaled):
                    self.assertEqual(len(form), 2)
                    self.assertTrue(is_exact_row(form[0], width) and is_exact(form[1]))
                self.assertEqual(fraction(value_at(total, row)), one + other)
                self.assertEqual(fraction(value_at(scaled, row)), fraction(factor) * one)
                self.assertEqual(fraction(total[1]), fraction(first[1]) + fraction(second[1]))
                self.assertEqual(fraction(scaled[1]), fraction(factor) * fraction(first[1]))

    def test_results_are_tuples(self):
        row = row_of_ints([1, 2])
        form = (row, (1, 2))
        for found in (row, zero_row(2), unit_row(2, 1), add_rows(row, row), scale_row((2, 1), row), product(row, row),
                      value_at(form, row), add_forms(form, form), scale_form((2, 1), form)):
            self.assertIs(type(found), tuple)


if __name__ == "__main__":
    unittest.main()
