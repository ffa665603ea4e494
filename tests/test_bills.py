import copy
import math
import random
import unittest
from fractions import Fraction

from kerbside.bills import MAX_PRICE, amount_of, bill_of, check_bill
from kerbside.errors import BadPaper, Endless, Never, NotAllowed
from kerbside.papers import check_paper
from kerbside.questions import form_of as form_of_terms, system_of
from kerbside.ratios import minus, of_int
from kerbside.solve import greatest
from kerbside.tables import certain_weights

from helpers import (condition_of, form_of, fraction, is_exact, is_right, kept_evidence, least_value, made_history,
                     pair_of, random_form, random_system, random_yard, sources_of, turned)

EXAMPLE = (1, ((((-1, 1),), "<=", (-5, 2)),))
NO_PRICES = (-1, -7, 1000, 1001, 10 ** 20, -10 ** 20)
NEVER = (1, (condition_of([1], "=", -1),))
ENDLESS = form_of([-1])


class Bills(unittest.TestCase):
    def setUp(self):
        self.source = random.Random(81)

    def raises(self, error, call, *told):
        with self.assertRaises(error, msg=told):
            call(*told)

    def cases(self, many):
        """Gives systems of two unknowns with a form and its least value, found by all corners."""
        for _ in range(many):
            system = random_system(self.source, 2, self.source.randint(0, 5))
            form = random_form(self.source, 2)
            yield system, form, least_value(system, form)

    def bills(self, many):
        """Gives systems, forms and right bills."""
        for system, form, least in self.cases(many):
            if least not in ("never", "endless"):
                yield system, form, bill_of(system, form, self.source.randint(1, 999))


class AmountTest(Bills):
    def test_examples(self):
        self.assertEqual(MAX_PRICE, 999)
        self.assertEqual(amount_of(7, (5, 2)), 17)
        self.assertEqual([amount_of(3, (1, 3)), amount_of(2, (1, 3)), amount_of(4, (2, 3)), amount_of(0, (7, 2))],
                         [1, 0, 2, 0])
        self.assertEqual([amount_of(999, (1, 999)), amount_of(998, (1, 999)), amount_of(999, (1, 1000))], [1, 0, 0])

    def test_greatest_integers(self):
        for _ in range(500):
            price = self.source.choice((0, 1, 2, 7, 998, 999, self.source.randint(0, 999)))
            size = self.source.choice((10, 10 ** 6, 10 ** 40))
            weight = pair_of(Fraction(self.source.randint(0, size), self.source.randint(1, size)))
            amount = amount_of(price, weight)
            self.assertIs(type(amount), int)
            self.assertTrue(amount <= price * fraction(weight) < amount + 1)

    def test_great_ratios(self):
        self.assertEqual(amount_of(999, (10 ** 5000, 1)), 999 * 10 ** 5000)
        self.assertEqual(amount_of(999, (10 ** 5000 + 1, 10 ** 4990)), 999 * 10 ** 10)
        self.assertEqual(amount_of(10, (10 ** 60 - 1, 10 ** 59)), 99)
        self.assertEqual(amount_of(999, (1, 10 ** 5000)), 0)

    def test_wrong_arguments(self):
        for price in NO_PRICES:
            for weight in ((0, 1), (5, 2), (-1, 1)):
                self.raises(NotAllowed, amount_of, price, weight)
        for weight in ((-1, 1), (-1, 10 ** 40), (-7, 2)):
            for price in (0, 7, 999):
                self.raises(NotAllowed, amount_of, price, weight)
        for price in (0, 999):
            self.assertEqual(amount_of(price, (1, 1)), price)


class BillTest(Bills):
    def test_example(self):
        self.assertEqual(bill_of(EXAMPLE, (((1, 1),), (0, 1)), 7)[:3], (7, (5, 2), 17))

    def test_least_values(self):
        seen = {"below": 0, "above": 0, "never": 0, "endless": 0}
        for system, form, least in self.cases(500):
            price = self.source.randint(0, 999)
            if least in ("never", "endless"):
                self.raises(Never if least == "never" else Endless, bill_of, system, form, price)
                seen[least] += 1
                continue
            bill = bill_of(system, form, price)
            self.assertEqual((type(bill), len(bill)), (tuple, 4))
            self.assertEqual(bill[:3], (price, pair_of(max(least, 0)), math.floor(price * max(least, 0))))
            self.assertTrue(is_exact(bill[1]))
            self.assertEqual(bill[3][:2], ("point", pair_of(-least)))
            self.assertTrue(is_right(system, turned(form), bill[3]))
            self.assertIsNone(check_bill(system, form, bill))
            seen["above" if least > 0 else "below"] += 1
        self.assertGreater(min(seen.values()), 30)

    def test_least_values_below_zero_and_at_zero(self):
        cap = (1, (condition_of([1], "<=", 6),))
        for numbers, constant, weight in (([-1], 0, 0), ([-1], 6, 0), ([-1], 7, 1), ([1], 0, 0), ([1], -3, 0),
                                          ([0], Fraction(5, 2), Fraction(5, 2)), ([0], Fraction(-5, 2), 0)):
            bill = bill_of(cap, form_of(numbers, constant), 10)
            self.assertEqual(bill[:3], (10, pair_of(weight), math.floor(10 * weight)))
            self.assertIsNone(check_bill(cap, form_of(numbers, constant), bill))

    def test_errors_in_order(self):
        for price in NO_PRICES:
            for system in (EXAMPLE, NEVER, (1, ())):
                self.raises(NotAllowed, bill_of, system, ENDLESS, price)
        for price in (0, 1, 999):
            self.raises(Never, bill_of, NEVER, ENDLESS, price)
            self.raises(Never, bill_of, NEVER, form_of([0]), price)
            self.raises(Endless, bill_of, EXAMPLE, ENDLESS, price)
            self.raises(Endless, bill_of, (1, ()), ENDLESS, price)
            self.assertEqual(bill_of((1, ()), form_of([1]), price)[1:3], ((0, 1), 0))

    def test_certain_weights(self):
        charged = 0
        for turn in range(40):
            yard = random_yard(self.source, turn % 4 + 1, 5, 1)
            history = made_history(self.source, yard)
            evidence = kept_evidence(self.source, len(history), history, self.source.randint(0, 5))
            system, weights = system_of(yard, evidence), certain_weights(yard, evidence)
            for household in range(yard[0]):
                lots = [lot for lot, (bringer, _) in enumerate(sources_of(yard)) if bringer == household]
                form = form_of_terms(yard, [(lot, household, (1, 1)) for lot in lots])
                bill = bill_of(system, form, 100)
                self.assertEqual(bill[1], weights[household])
                self.assertLessEqual(bill[2], 100 * sum(history[lot * yard[0] + household] for lot in lots))
                check_bill(system, form, bill)
                charged += bill[2] > 0
        self.assertGreater(charged, 10)

    def test_arguments_stay(self):
        for system, form, bill in self.bills(40):
            kept = copy.deepcopy((system, form, bill))
            check_bill(system, form, bill)
            bill_of(system, form, 5)
            self.assertEqual((system, form, bill), kept)


class CheckTest(Bills):
    def refuse(self, system, form, bill):
        self.raises(BadPaper, check_bill, system, form, bill)

    def test_other_prices(self):
        for system, form, (price, weight, amount, paper) in self.bills(60):
            for number in NO_PRICES:
                self.refuse(system, form, (number, weight, amount, paper))
                self.refuse(system, form, (number, weight, math.floor(number * fraction(weight)), paper))
            other = price % 999 + 1
            self.assertIsNone(check_bill(system, form, (other, weight, amount_of(other, weight), paper)))
            if amount_of(other, weight) != amount:
                self.refuse(system, form, (other, weight, amount, paper))

    def test_other_weights_and_amounts(self):
        for system, form, (price, weight, amount, paper) in self.bills(120):
            for other in (minus(weight, (1, 1)), minus(weight, (-1, 1)), minus(weight, (-1, 10 ** 9)),
                          (-weight[0], weight[1]), paper[1], (0, 1), (2 * weight[0], 2 * weight[1])):
                if other != weight:
                    self.refuse(system, form, (price, other, amount, paper))
                    self.refuse(system, form, (price, other, math.floor(price * fraction(other)), paper))
            for other in (amount + 1, amount - 1, -amount, 0, math.ceil(price * fraction(weight))):
                if other != amount:
                    self.refuse(system, form, (price, weight, other, paper))

    def test_other_values(self):
        for system, form, (price, weight, amount, paper) in self.bills(120):
            for value in (minus(paper[1], (1, 1)), minus(paper[1], (-1, 1)), minus(paper[1], (1, 10 ** 9)),
                          (-paper[1][0], paper[1][1])):
                if value != paper[1]:
                    spoilt = ("point", value) + paper[2:]
                    self.refuse(system, form, (price, weight, amount, spoilt))
                    most = max(-fraction(value), 0)
                    self.refuse(system, form, (price, pair_of(most), math.floor(price * most), spoilt))

    def test_papers_of_other_kinds(self):
        endless = greatest((1, ()), form_of([1]))
        self.assertEqual(endless[0], "endless")
        never = greatest(NEVER, form_of([1]))
        self.assertEqual(never[0], "never")
        for paper in (endless, never, ("point",), ("certain",) + greatest(EXAMPLE, ENDLESS)[1:]):
            for weight in ((0, 1), (5, 2)):
                for system, form in (((1, ()), ENDLESS), ((1, ()), form_of([1])), (NEVER, ENDLESS),
                                     (NEVER, form_of([0])), (EXAMPLE, form_of([1]))):
                    self.refuse(system, form, (7, weight, amount_of(7, weight), paper))
        check_paper((1, ()), form_of([1]), endless)
        check_paper(NEVER, form_of([1]), never)

    def test_papers_for_other_forms(self):
        for system, form, (price, weight, amount, paper) in self.bills(120):
            other = greatest(system, form)
            if other[0] == "point" and not is_right(system, turned(form), other):
                self.refuse(system, form, (price, weight, amount, other))
                least = max(-fraction(other[1]), 0)
                self.refuse(system, form, (price, pair_of(least), math.floor(price * least), other))
            higher = (form[0], minus(form[1], of_int(-1)))
            self.refuse(system, higher, (price, weight, amount, paper))
            self.assertIsNone(check_bill(system, form, (price, weight, amount, paper)))

    def test_other_papers_of_the_same_value(self):
        system = (2, (condition_of([-1, -1], "<=", -4), condition_of([-1, -1], "<=", -4)))
        form = form_of([1, 1])
        for history in ((4, 0), (0, 4), (Fraction(1, 2), Fraction(7, 2))):
            for multipliers in ((1, 0), (0, 1), (Fraction(1, 3), Fraction(2, 3))):
                paper = ("point", (-4, 1), tuple(map(pair_of, history)), tuple(map(pair_of, multipliers)))
                self.assertIsNone(check_bill(system, form, (5, (4, 1), 20, paper)))
                self.refuse(system, form, (5, (4, 1), 21, paper))
        for history, multipliers in (((4, 1), (1, 0)), ((4, 0), (2, 0)), ((4, 0), (2, -1)), ((5, -1), (1, 0))):
            paper = ("point", (-4, 1), tuple(map(pair_of, history)), tuple(map(pair_of, multipliers)))
            self.refuse(system, form, (5, (4, 1), 20, paper))


if __name__ == "__main__":
    unittest.main()
