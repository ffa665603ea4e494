import random
import unittest

from kerbside.errors import BadPaper, NotAllowed
from kerbside.papers import MAX_CONDITIONS, check_paper, check_system, is_history, keeps, mixture
from kerbside.solve import greatest

from helpers import (condition_of, dot, form_of, fraction, fractions, is_exact, is_exact_row, is_right, pair_of,
                     random_bound, random_form, random_ratio, random_row, random_system, row_of, turned)


class SystemTest(unittest.TestCase):
    def setUp(self):
        self.source = random.Random(21)

    def test_systems_pass(self):
        self.assertEqual(MAX_CONDITIONS, 40)
        for width in range(1, 25):
            for many in (0, 1, 39, 40):
                self.assertIsNone(check_system(random_system(self.source, width, many)))

    def refuse(self, system):
        with self.assertRaises(NotAllowed):
            check_system(system)

    def test_widths(self):
        for width in (-1, 0, 25, 26):
            self.refuse((width, ()))
            self.refuse((width, ((((1, 1),) * max(width, 0), "<=", (1, 1)),)))

    def test_number_of_conditions(self):
        for width in (1, 24):
            condition = (((1, 1),) * width, "=", (1, 2))
            self.assertIsNone(check_system((width, (condition,) * 40)))
            for many in (41, 42, 100):
                self.refuse((width, (condition,) * many))

    def test_one_wrong_condition(self):
        for width in (1, 2, 23, 24):
            good = (((1, 2),) * width, "<=", (3, 1))
            row = good[0]
            wrong = [(row[1:], "<=", (3, 1)), (row + ((1, 1),), "<=", (3, 1)), ((), "<=", (3, 1))]
            wrong += [(row, relation, (3, 1)) for relation in (">=", "<", "", "==", " =", "=<", "<= ", "=\n", "a")]
            wrong += [(row, "<=", pair) for pair in ((2, 4), (1, 0), (0, 2), (1, -1), (0, 0))]
            for pair in ((2, 4), (1, 0), (0, 2), (1, -1)):
                wrong += [(pair_row, "=", (3, 1)) for pair_row in (((pair,) + row[1:]), (row[:-1] + (pair,)))]
            for condition in wrong:
                for conditions in ((condition,), (good, condition), (condition, good), (good, good, condition)):
                    self.refuse((width, conditions))


class HistoryTest(unittest.TestCase):
    def setUp(self):
        self.source = random.Random(22)

    def test_keeps_at_and_beside_the_bound(self):
        for width in (1, 2, 5, 24):
            for _ in range(20):
                coefficients, row = random_row(self.source, width), random_row(self.source, width)
                value = dot(fractions(coefficients), fractions(row))
                little = fraction((1, 10 ** 40))
                for bound, less, same in ((value, True, True), (value - little, False, False),
                                          (value + little, True, False)):
                    self.assertIs(keeps((coefficients, "<=", pair_of(bound)), row), less)
                    self.assertIs(keeps((coefficients, "=", pair_of(bound)), row), same)

    def test_is_history(self):
        system = (2, (condition_of([1, 2], "<=", 6), condition_of([1, -1], "=", 1)))
        little = fraction((1, 10 ** 30))
        for numbers, right in (([1, 0], True), ([fraction((8, 3)), fraction((5, 3))], True), ([2, 1], True),
                               ([0, -1], False), ([3, 2], False), ([1, 1], False), ([2 + little, 1], False),
                               ([fraction((8, 3)) + little, fraction((5, 3)) + little], False),
                               ([1, little], False), ([1 - little, -little], False)):
            self.assertIs(is_history(system, row_of(*numbers)), right, numbers)

    def test_other_lengths(self):
        for width in (1, 2, 24):
            for system in ((width, ()), (width, (condition_of([0] * width, "<=", 0),))):
                self.assertIs(is_history(system, row_of(*[0] * width)), True)
                for many in (0, width - 1, width + 1, 25):
                    if many != width:
                        self.assertIs(is_history(system, row_of(*[0] * many)), False)

    def test_below_zero(self):
        for width in (1, 3, 24):
            for place in range(width):
                row = row_of(*[-1 if index == place else 1 for index in range(width)])
                self.assertIs(is_history((width, ()), row), False)
                self.assertIs(keeps(condition_of([1] * width, "<=", width), row), True)


class MixtureTest(unittest.TestCase):
    def setUp(self):
        self.source = random.Random(23)

    def test_mixtures(self):
        for _ in range(60):
            width, many = self.source.randint(1, 8), self.source.randint(0, 8)
            conditions = tuple((random_row(self.source, width), self.source.choice(["<=", "="]),
                                random_bound(self.source)) for _ in range(many))
            multipliers = tuple(self.multiplier(relation) for _, relation, _ in conditions)
            row, bound = mixture((width, conditions), multipliers)
            self.assertTrue(is_exact_row(row, width) and is_exact(bound))
            shares = fractions(multipliers)
            for place in range(width):
                column = [fraction(condition[0][place]) for condition in conditions]
                self.assertEqual(fraction(row[place]), dot(column, shares))
            self.assertEqual(fraction(bound), dot([fraction(condition[2]) for condition in conditions], shares))

    def multiplier(self, relation):
        n, d = random_ratio(self.source)
        return (n, d) if relation == "=" else (abs(n), d)

    def test_without_conditions(self):
        self.assertEqual(mixture((3, ()), ()), (row_of(0, 0, 0), (0, 1)))

    def test_what_is_no_multipliers(self):
        system = (1, (condition_of([1], "<=", 1), condition_of([2], "=", 3)))
        self.assertEqual(mixture(system, row_of(0, -2)), (row_of(-4), (-6, 1)))
        for numbers in ([-1, 0], [fraction((-1, 10 ** 40)), 5], [], [1], [1, 1, 1], [0, 0, 0]):
            with self.assertRaises(NotAllowed):
                mixture(system, row_of(*numbers))
        with self.assertRaises(NotAllowed):
            mixture((1, ()), row_of(0))


class CheckPaperTest(unittest.TestCase):
    """The check is compared with the judgement of the helpers, which follows the definition."""

    def setUp(self):
        self.source = random.Random(24)

    def refuse(self, system, form, paper):
        with self.assertRaises(BadPaper, msg=str((system, form, paper))):
            check_paper(system, form, paper)

    def judge(self, system, form, paper):
        if is_right(system, form, paper):
            self.assertIsNone(check_paper(system, form, paper))
        else:
            self.refuse(system, form, paper)

    def cases(self):
        for _ in range(80):
            width = self.source.randint(1, 5)
            system = random_system(self.source, width, self.source.randint(0, 6))
            form = random_form(self.source, width)
            yield system, form, greatest(system, form)

    def test_all_kinds_pass(self):
        kinds = set()
        for system, form, paper in self.cases():
            self.assertTrue(is_right(system, form, paper))
            self.assertIsNone(check_paper(system, form, paper))
            kinds.add(paper[0])
        self.assertEqual(kinds, {"point", "endless", "never"})

    def test_one_ratio_changed(self):
        for system, form, paper in self.cases():
            for at, part in enumerate(paper[1:], 1):
                if paper[0] == "point" and at == 1:
                    continue
                for place, pair in enumerate(part):
                    for step in ((1, 1), (-1, 1), (1, 10 ** 30), (-1, 10 ** 30)):
                        changed = pair_of(fraction(pair) + fraction(step))
                        self.judge(system, form, self.put(paper, at, part[:place] + (changed,) + part[place + 1:]))

    def put(self, paper, at, part):
        return paper[:at] + (part,) + paper[at + 1:]

    def test_other_values(self):
        for system, form, paper in self.cases():
            if paper[0] == "point":
                for step in ((1, 1), (-1, 1), (1, 10 ** 30), (-1, 10 ** 30)):
                    self.refuse(system, form, self.put(paper, 1, pair_of(fraction(paper[1]) + fraction(step))))

    def test_other_lengths_of_parts(self):
        for system, form, paper in self.cases():
            for at in range(2 if paper[0] == "point" else 1, len(paper)):
                part = paper[at]
                for changed in (part + ((0, 1),), ((0, 1),) + part, part[1:], part[:-1], (), part + part):
                    if changed != part:
                        self.refuse(system, form, self.put(paper, at, changed))

    def test_ratios_not_in_lowest_terms(self):
        for system, form, paper in self.cases():
            for at in range(2 if paper[0] == "point" else 1, len(paper)):
                for place, (n, d) in enumerate(paper[at]):
                    changed = paper[at][:place] + ((2 * n, 2 * d),) + paper[at][place + 1:]
                    self.refuse(system, form, self.put(paper, at, changed))

    def test_words_and_lengths(self):
        for system, form, paper in self.cases():
            for word in ("point", "endless", "never", "Point", "", "certain", "never "):
                if word != paper[0]:
                    self.refuse(system, form, (word,) + paper[1:])
            self.refuse(system, form, paper[:-1])
            self.refuse(system, form, paper + ((),))
            self.refuse(system, form, paper + (paper[-1],))
            self.refuse(system, form, paper[:1])

    def test_parts_exchanged(self):
        system = (2, (condition_of([1, 0], "<=", 1), condition_of([0, 1], "<=", 2)))
        form = form_of([1, 3])
        value, history, multipliers = (7, 1), row_of(1, 2), row_of(1, 3)
        self.assertIsNone(check_paper(system, form, ("point", value, history, multipliers)))
        for parts in ((value, multipliers, history), (history, value, multipliers), (multipliers, history, value),
                      (history, multipliers, value), (multipliers, value, history)):
            self.refuse(system, form, ("point",) + parts)
        free = (2, (condition_of([1, 0], "=", 1),))
        self.assertIsNone(check_paper(free, form, ("endless", row_of(1, 0), row_of(0, 1))))
        self.refuse(free, form, ("endless", row_of(0, 1), row_of(1, 0)))

    def test_paper_of_another_form(self):
        system = (2, (condition_of([1, 0], "<=", 1), condition_of([0, 1], "<=", 2)))
        paper = greatest(system, form_of([1, 3]))
        for form in (form_of([1, 4]), form_of([2, 3]), form_of([1, 3], 1), form_of([-1, -3])):
            self.refuse(system, form, paper)
        ray = ("endless", row_of(0, 0), row_of(1, 0))
        self.assertIsNone(check_paper((2, ()), form_of([1, 0]), ray))
        for form in (form_of([0, 0]), form_of([0, 1]), form_of([-1, 0]), form_of([0, 0], 1)):
            self.refuse((2, ()), form, ray)
        for system, form, paper in self.cases():
            self.judge(system, turned(form), paper)
            self.judge(system, (form[0], pair_of(fraction(form[1]) + 1)), paper)

    def test_point_at_the_edges(self):
        system = (1, (condition_of([1], "<=", 4), condition_of([1], "<=", 4)))
        form = form_of([1])
        for numbers, right in (([1, 0], True), ([fraction((1, 2)), fraction((1, 2))], True), ([2, -1], False),
                               ([1, 1], False), ([0, fraction((99, 100))], False)):
            paper = ("point", (4, 1), row_of(4), row_of(*numbers))
            self.assertEqual(is_right(system, form, paper), right)
            self.judge(system, form, paper)
        # A mixture may exceed the form where the history has 0.
        self.judge((2, (condition_of([1, 1], "<=", 3),)), form_of([1, 0]), ("point", (3, 1), row_of(3, 0), row_of(1)))

    def test_never_at_the_edges(self):
        system = (1, (condition_of([1], "<=", -1), condition_of([0], "=", 0), condition_of([-1], "=", 0)))
        for numbers, right in (([1, 0, 0], True), ([1, 5, 0], True), ([1, 0, 1], True), ([1, 0, 2], False),
                               ([0, 0, 0], False), ([-1, 0, 0], False), ([1, -7, -1], True)):
            paper = ("never", row_of(*numbers))
            self.assertEqual(is_right(system, form_of([1]), paper), right)
            self.judge(system, form_of([1]), paper)

    def test_endless_at_the_edges(self):
        system = (3, (condition_of([1, -1, 0], "<=", 2), condition_of([0, 0, 1], "=", 1)))
        form = form_of([1, 0, 0])
        for history, ray, right in (([2, 0, 1], [1, 1, 0], True), ([0, 0, 1], [1, 2, 0], True),
                                    ([0, 0, 1], [2, 1, 0], False), ([3, 0, 1], [1, 1, 0], False),
                                    ([0, 0, 1], [0, 1, 0], False), ([0, 0, 1], [1, 1, 1], False),
                                    ([0, 0, 1], [1, 1, -1], False), ([0, 0, 2], [1, 1, 0], False),
                                    ([-1, 0, 1], [1, 1, 0], False), ([0, 0, 1], [-1, 0, 0], False)):
            paper = ("endless", row_of(*history), row_of(*ray))
            self.assertEqual(is_right(system, form, paper), right)
            self.judge(system, form, paper)


if __name__ == "__main__":
    unittest.main()
