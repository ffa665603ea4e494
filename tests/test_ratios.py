import random
import unittest
from fractions import Fraction
from math import floor

from kerbside.errors import BadForm, NotAllowed
from kerbside.ratios import (MAX_TEXT, compare, floor_of, is_ratio, minus, negated, of_int, over, plus, ratio,
                             ratio_text, read_ratio, sign_of, times)

from helpers import fraction, is_exact, pair_of

SMALL = [-3, -2, -1, 0, 1, 2, 3, 4, 6]


def integers(source):
    """Integers of all sizes up to 45 figures, and some with many divisors."""
    found = list(SMALL)
    for figures in (1, 2, 5, 18, 19, 20, 40, 45):
        found.append(source.randint(10 ** (figures - 1), 10 ** figures))
        found.append(-source.randint(10 ** (figures - 1), 10 ** figures))
    return found + [2 ** 90, -6 ** 50, 30 ** 27]


def ratios(source):
    found = [pair_of(Fraction(n, d)) for n in SMALL for d in (1, 2, 3, 4, 6)]
    tall = integers(source)
    for _ in range(30):
        found.append(pair_of(Fraction(source.choice(tall), abs(source.choice(tall)) + 1)))
    return found


class RatioTest(unittest.TestCase):
    def setUp(self):
        self.source = random.Random(1)

    def test_ratio_is_in_lowest_terms_and_has_the_value(self):
        for n in integers(self.source):
            for d in integers(self.source):
                for factor in (1, -1, 6, 10 ** 20):
                    if d == 0:
                        continue
                    pair = ratio(n * factor, d * factor)
                    self.assertTrue(is_exact(pair), pair)
                    self.assertEqual(pair, pair_of(Fraction(n, d)))

    def test_ratio_of_nothing(self):
        for n in (0, 1, -5, 10 ** 40):
            with self.assertRaises(NotAllowed):
                ratio(n, 0)

    def test_examples(self):
        self.assertEqual(ratio(6, -4), (-3, 2))
        self.assertEqual([floor_of((-3, 2)), over((1, 2), (-3, 1)), ratio_text((-1, 6))], [-2, (-1, 6), "-1/6"])
        with self.assertRaises(BadForm):
            read_ratio("2/4")

    def test_is_ratio(self):
        for n in range(-12, 13):
            for d in range(-12, 13):
                right = d >= 1 and pair_of(Fraction(n, d)) == (n, d)
                self.assertIs(is_ratio((n, d)), right, (n, d))
        for pair, right in (((0, 1), True), ((0, 2), False), ((2, 4), False), ((1, 0), False), ((1, -1), False),
                            ((0, 0), False), ((-1, -1), False), ((10 ** 40, 10 ** 40 + 1), True),
                            ((10 ** 40, 10 ** 41 + 2), False)):
            self.assertIs(is_ratio(pair), right, pair)

    def test_of_int(self):
        for n in integers(self.source):
            self.assertEqual(of_int(n), (n, 1))
            self.assertIs(type(of_int(n)), tuple)


class ArithmeticTest(unittest.TestCase):
    def setUp(self):
        self.ratios = ratios(random.Random(2))
        source = random.Random(3)
        self.pairs = [(left, right) for left in self.ratios for right in source.sample(self.ratios, 25)]
        self.pairs += [(left, left) for left in self.ratios]
        self.pairs += [(left, (-left[0], left[1])) for left in self.ratios]

    def test_against_fractions(self):
        for left, right in self.pairs:
            a, b = fraction(left), fraction(right)
            results = [(plus(left, right), a + b), (minus(left, right), a - b), (times(left, right), a * b),
                       (negated(left), -a)]
            if b != 0:
                results.append((over(left, right), a / b))
            for found, right_one in results:
                self.assertTrue(is_exact(found), (left, right, found))
                self.assertEqual(fraction(found), right_one, (left, right))

    def test_over_nothing(self):
        for left in self.ratios:
            with self.assertRaises(NotAllowed):
                over(left, (0, 1))

    def test_order(self):
        for left, right in self.pairs:
            a, b = fraction(left), fraction(right)
            self.assertEqual(compare(left, right), int(a > b) - int(a < b))
            self.assertIs(type(compare(left, right)), int)
            self.assertEqual(sign_of(left), int(a > 0) - int(a < 0))
            self.assertIs(type(sign_of(left)), int)

    def test_order_of_neighbours(self):
        large = 10 ** 40
        self.assertEqual(compare((large, large + 1), (large + 1, large + 2)), -1)
        self.assertEqual(compare((-large, large + 1), (-large - 1, large + 2)), 1)

    def test_floor(self):
        for pair in self.ratios:
            self.assertEqual(floor_of(pair), floor(fraction(pair)))
        for pair, below in (((-3, 2), -2), ((3, 2), 1), ((-4, 1), -4), ((4, 1), 4), ((-1, 10 ** 40), -1), ((0, 1), 0)):
            self.assertEqual(floor_of(pair), below)


class TextTest(unittest.TestCase):
    def test_each_text_comes_back(self):
        for pair in ratios(random.Random(4)):
            n, d = pair
            text = str(n) if d == 1 else str(n) + "/" + str(d)
            self.assertEqual(ratio_text(pair), text)
            if len(text) <= 60:
                self.assertEqual(read_ratio(text), pair)

    def test_very_long_texts(self):
        # Python writes no integer of more than 4300 digits by itself.
        self.assertEqual(ratio_text((10 ** 9000, 1)), "1" + "0" * 9000)
        self.assertEqual(ratio_text((-(10 ** 5000), 3)), "-1" + "0" * 5000 + "/3")
        self.assertEqual(ratio_text((7, 10 ** 5000 + 1)), "7/1" + "0" * 4999 + "1")
        self.assertEqual(ratio_text((10 ** 64, 10 ** 64 - 1)), "1" + "0" * 64 + "/" + "9" * 64)

    def test_other_texts(self):
        wrong = ["", "-", "/", "1/", "/2", "-/2", "+1", "-0", "00", "01", "-01", "1/02", "01/2", "0/1", "0/2", "2/4",
                 "3/1", "1/1", "1/0", "0/0", "1/-2", "-1/-2", "--1", "1-", "+1/2", "1/+2", " 1", "1 ", "1 /2", "1/ 2",
                 "1/2/3", "1//2", "1.5", "1e3", "1_000", "1,5", "0x1", "a", "one", "\u0663", "\u00b2", "1/\u0663",
                 "\uff11", "1\n", "\n1", "\t1", "-\u0661/2", "1\u00a0", "-0/5", "0/-1", "None", "(1, 2)"]
        for text in wrong:
            with self.assertRaises(BadForm, msg=repr(text)):
                read_ratio(text)

    def test_texts_with_something_changed(self):
        for pair in ((3, 7), (-3, 7), (12, 1), (-12, 1), (0, 1), (105, 2)):
            text = ratio_text(pair)
            for at in range(len(text) + 1):
                for letter in "0+- /a":
                    changed = text[:at] + letter + text[at:]
                    self.check_changed(changed)
            for at in range(len(text)):
                self.check_changed(text[:at] + text[at + 1:])

    def check_changed(self, text):
        """A text is read just if it is the text of the ratio that is read."""
        try:
            pair = read_ratio(text)
        except BadForm:
            self.assertNotIn(text, [ratio_text(pair_of(Fraction(n, d))) for n in range(-130, 131) for d in range(1, 9)])
            return
        self.assertTrue(is_exact(pair))
        self.assertEqual(ratio_text(pair), text)

    def test_length(self):
        self.assertEqual(MAX_TEXT, 60)
        for text in ("1" * 60, "-" + "1" * 59, "1" * 29 + "/1" + "0" * 29, "-7/" + "1" * 57):
            self.assertEqual(len(text), 60)
            self.assertEqual(ratio_text(read_ratio(text)), text)
        for text in ("1" * 61, "-" + "1" * 60, "1" * 30 + "/1" + "0" * 29, "-7/1" + "0" * 57, "1" * 5000):
            with self.assertRaises(BadForm):
                read_ratio(text)


if __name__ == "__main__":
    unittest.main()
