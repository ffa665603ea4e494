import copy
import random
import unittest
from fractions import Fraction

from kerbside import questions
from kerbside.errors import BadPaper, Full, Missing, NotAllowed
from kerbside.follow import span
from kerbside.questions import answer_of, check_answer, system_of
from kerbside.rows import value_at
from kerbside.yards import read_yard, yard_conditions

from helpers import (condition_of, dot, fraction, fractions, is_exact_row, is_right_answer, kept_evidence,
                     made_history, pair_of, random_yard, row_of, sources_of)

RELATIONS = ("<=", ">=", "=")
LITTLE = Fraction(1, 10 ** 30)
EXAMPLE = read_yard("2: +0 +1 P0,1")
TOTAL = (((0, 1), (0, 1), (0, 1), (0, 1), (1, 1), (1, 1)), "=", (10, 1))
FIRST = (((1, 1), (1, 1), (0, 1), (0, 1), (0, 1), (0, 1)), "<=", (4, 1))
EVIDENCE = [TOTAL, FIRST]
SECOND = [(1, None, (1, 1))]
NO_LOTS = (2, ())


def word_of(relation, ends, bound):
    """Returns the first word of the right answers, by the span of the sum."""
    least, most = (None if end is None else fraction(end) for end in ends)
    bound = fraction(bound)
    not_above, not_below = most is not None and most <= bound, least is not None and least >= bound
    above, below = least is not None and least > bound, most is not None and most < bound
    certain = {"<=": not_above, ">=": not_below, "=": not_above and not_below}[relation]
    impossible = {"<=": above, ">=": below, "=": above or below}[relation]
    return "certain" if certain else "impossible" if impossible else "open"


class Asking(unittest.TestCase):
    def setUp(self):
        self.source = random.Random(81)

    def terms(self, yard, most=4):
        """Returns the terms of a sum."""
        lots, found = range(len(sources_of(yard))), []
        for _ in range(self.source.randint(0, most)):
            household = self.source.choice([None] + list(range(yard[0])))
            factor = self.source.choice((1, 1, 2, -1, Fraction(1, 2), Fraction(-3, 2), 0))
            found.append((self.source.choice(lots), household, pair_of(factor)))
        return found

    def cases(self, many, deeds=5):
        """Gives yards with lots, evidence that a history keeps, and sums."""
        for turn in range(many):
            yard = random_yard(self.source, turn * 4 // many + 1, deeds, 1)
            history = made_history(self.source, yard)
            evidence = kept_evidence(self.source, len(history), history, self.source.randint(0, 5))
            yield yard, evidence, self.terms(yard), history

    def bounds(self, ends):
        """Returns bounds at both ends, a little within and beyond them, between them, and far from them."""
        numbers = [Fraction(0), Fraction(10 ** 9), Fraction(-10 ** 9)]
        known = [fraction(end) for end in ends if end is not None]
        for end in known:
            numbers += [end, end + LITTLE, end - LITTLE]
        numbers += [sum(known, Fraction(0)) / len(known)] if known else []
        return [pair_of(number) for number in numbers]


class FormTest(Asking):
    def test_known_forms(self):
        zero, one = (0, 1), (1, 1)
        self.assertEqual(questions.form_of(EXAMPLE, []), ((zero,) * 6, zero))
        self.assertEqual(questions.form_of(EXAMPLE, [(1, None, one)]), ((zero, zero, one, one, zero, zero), zero))
        self.assertEqual(questions.form_of(EXAMPLE, [(0, 1, (3, 2))]), ((zero, (3, 2)) + (zero,) * 4, zero))
        self.assertEqual(questions.form_of(EXAMPLE, [(2, 0, one), (2, None, (1, 2)), (2, 0, (-3, 2)), (2, 1, (1, 3))]),
                         ((zero,) * 5 + ((5, 6),), zero))
        for households in range(1, 5):
            self.assertEqual(questions.form_of((households, ()), []), ((), zero))

    def test_values(self):
        for yard, _, terms, history in self.cases(200):
            form = questions.form_of(yard, terms)
            wanted = Fraction(0)
            for lot, household, factor in terms:
                content = history[lot * yard[0]:(lot + 1) * yard[0]]
                wanted += fraction(factor) * (sum(content) if household is None else content[household])
            self.assertEqual(value_at(form, row_of(*history)), pair_of(wanted))
            self.assertTrue(is_exact_row(form[0], len(history)))
            self.assertEqual(form[1], (0, 1))
            self.assertEqual(questions.form_of(yard, terms[::-1]), form)
            self.assertEqual(questions.form_of(yard, terms + terms)[0],
                             row_of(*[2 * number for number in fractions(form[0])]))

    def test_missing(self):
        good = (0, None, (1, 1))
        for term in [(lot, household, (1, 1)) for lot in (-1, 3, 8, 10 ** 20) for household in (None, 0, 1, 2)] + [
                (lot, household, (0, 1)) for lot in (0, 2) for household in (-1, 2, 3, 10 ** 20)]:
            for terms in ([term], [good, term], [term, good]):
                with self.assertRaises(Missing):
                    questions.form_of(EXAMPLE, terms)
        for lot in (-1, 0):
            with self.assertRaises(Missing):
                questions.form_of(NO_LOTS, [(lot, None, (1, 1))])


class SystemTest(Asking):
    def test_conditions_of_the_yard_and_then_evidence(self):
        for yard, evidence, _, history in self.cases(100):
            system = system_of(yard, evidence)
            self.assertEqual(system, (len(history), tuple(yard_conditions(yard) + evidence)))
            self.assertIs(type(system[1]), tuple)

    def test_missing_comes_first(self):
        for evidence in ([], [FIRST], [(FIRST[0], "<", (2, 4))], [FIRST] * 50):
            for households in range(1, 5):
                with self.assertRaises(Missing):
                    system_of((households, ()), evidence)

    def test_not_allowed_comes_before_full(self):
        row, relation, bound = FIRST
        wrong = [(row[:5], relation, bound), (row + ((0, 1),), relation, bound), ((), relation, bound),
                 (row * 5, relation, bound)]
        wrong += [(row, sign, bound) for sign in (">=", "<", ">", "", "==", "<= ", "=<")]
        for pair in ((2, 4), (1, 0), (0, 0), (0, 2), (1, -1), (-2, -3)):
            wrong += [(row, relation, pair), (row[:5] + (pair,), relation, bound), ((pair,) + row[1:], relation, bound)]
        for condition in wrong:
            for evidence in ([condition], [FIRST, condition], [condition, TOTAL], [FIRST] * 60 + [condition],
                             [condition] + [FIRST] * 40):
                with self.assertRaises(NotAllowed, msg=str(condition)):
                    system_of(EXAMPLE, evidence)

    def test_full(self):
        for yard, _, _, history in self.cases(12):
            room = 40 - len(yard_conditions(yard))
            condition = condition_of([1] * len(history), "<=", 3)
            self.assertEqual(len(system_of(yard, [condition] * room)[1]), 40)
            for many in (room + 1, room + 2, room + 40):
                with self.assertRaises(Full):
                    system_of(yard, [condition] * many)


class AnswerTest(Asking):
    def test_examples(self):
        words = [answer_of(EXAMPLE, EVIDENCE, (SECOND, ">=", bound))[0] for bound in [(5, 1), (7, 1), (11, 1)]]
        self.assertEqual(words, ["certain", "open", "impossible"])

    def test_right_answers(self):
        seen = {}
        for yard, evidence, terms, _ in self.cases(80):
            system, form = system_of(yard, evidence), questions.form_of(yard, terms)
            ends = span(system, form)
            for bound in self.bounds(ends):
                for relation in RELATIONS:
                    question = (terms, relation, bound)
                    answer = answer_of(yard, evidence, question)
                    self.assertEqual(answer[0], word_of(relation, ends, bound), (yard, evidence, question))
                    self.assertTrue(is_right_answer(system, form, relation, bound, answer), (yard, evidence, question))
                    self.assertIsNone(check_answer(yard, evidence, question, answer))
                    seen[answer[0], relation] = seen.get((answer[0], relation), 0) + 1
        for word in ("certain", "impossible", "open"):
            for relation in RELATIONS:
                self.assertGreater(seen[word, relation], 15, (word, relation))

    def test_never(self):
        for yard, evidence, terms, history in self.cases(40):
            row = row_of(*[1] * len(history))
            broken = evidence + [(row, "=", (-1, 1))]
            if self.source.random() < 0.5:
                low = pair_of(dot(fractions(row), history) + 1)
                broken = [(row, "=", low)] + evidence + [(row, "<=", (low[0] - low[1], low[1]))]
            system, form = system_of(yard, broken), questions.form_of(yard, terms)
            for relation in RELATIONS:
                for bound in ((0, 1), (-5, 2), (10 ** 20, 1)):
                    answer = answer_of(yard, broken, (terms, relation, bound))
                    self.assertEqual(answer[0], "never")
                    self.assertTrue(is_right_answer(system, form, relation, bound, answer))
                    self.assertIsNone(check_answer(yard, broken, (terms, relation, bound), answer))

    def test_sides_of_an_equation(self):
        for bound, side in (((5, 1), "above"), ((11, 1), "below"), ((-1, 1), "above")):
            self.assertEqual(answer_of(EXAMPLE, EVIDENCE, (SECOND, "=", bound))[:2], ("impossible", side))

    def test_sums_without_ends(self):
        yard = read_yard("2: +0 +1")
        terms = [(0, None, (1, 1)), (1, None, (-1, 1))]
        system, form = system_of(yard, []), questions.form_of(yard, terms)
        for relation in RELATIONS:
            for bound in ((0, 1), (10 ** 30, 7), (-10 ** 30, 7)):
                answer = answer_of(yard, [], (terms, relation, bound))
                self.assertEqual(answer[0], "open")
                self.assertTrue(is_right_answer(system, form, relation, bound, answer), answer)

    def test_sums_without_ends_that_begin_far_from_the_bound(self):
        yard = read_yard("2: +0 +1")
        evidence = [condition_of([0, 0, 0, -1], "<=", -100), condition_of([-1, 0, 0, 0], "<=", -7)]
        for signs in ((1, -1), (-1, 1), (3, Fraction(-1, 2)), (Fraction(-1, 3), 2)):
            terms = [(lot, None, pair_of(sign)) for lot, sign in enumerate(signs)]
            system, form = system_of(yard, evidence), questions.form_of(yard, terms)
            for relation in RELATIONS:
                for bound in range(-260, 261, 20):
                    answer = answer_of(yard, evidence, (terms, relation, (bound, 1)))
                    self.assertEqual(answer[0], "open")
                    self.assertTrue(is_right_answer(system, form, relation, (bound, 1), answer), answer)

    def test_errors_in_order(self):
        wrong_evidence = [(FIRST[0], "<", (4, 1))]
        wrong_terms, wrong_bound = [(9, None, (1, 1))], (2, 4)
        right = answer_of(EXAMPLE, EVIDENCE, (SECOND, "<=", (7, 1)))
        for call in (lambda *parts: answer_of(*parts), lambda *parts: check_answer(*parts, ("word", (), ())),
                     lambda *parts: check_answer(*parts, right)):
            for terms in (SECOND, wrong_terms, []):
                for relation in ("<=", "<"):
                    for bound in ((7, 1), wrong_bound):
                        for yard, evidence, error in ((NO_LOTS, wrong_evidence, Missing), (NO_LOTS, [], Missing),
                                                      (EXAMPLE, wrong_evidence, NotAllowed),
                                                      (EXAMPLE, wrong_evidence + [FIRST] * 50, NotAllowed),
                                                      (EXAMPLE, [FIRST] * 50, Full)):
                            with self.assertRaises(error):
                                call(yard, evidence, (terms, relation, bound))
                        if terms == wrong_terms:
                            with self.assertRaises(Missing):
                                call(EXAMPLE, EVIDENCE, (terms, relation, bound))
            for relation in ("<", ">", "", "==", "=<", "=>", "<= ", "above"):
                with self.assertRaises(NotAllowed):
                    call(EXAMPLE, EVIDENCE, (SECOND, relation, (7, 1)))
            for bound in ((2, 4), (1, 0), (0, 0), (0, 3), (1, -1)):
                for relation in RELATIONS:
                    with self.assertRaises(NotAllowed):
                        call(EXAMPLE, EVIDENCE, (SECOND, relation, bound))

    def test_arguments_stay(self):
        evidence, terms = list(EVIDENCE), [(1, None, (1, 1)), (0, 0, (-1, 2))]
        kept = copy.deepcopy((evidence, terms))
        for relation in RELATIONS:
            answer = answer_of(EXAMPLE, evidence, (terms, relation, (7, 1)))
            check_answer(EXAMPLE, evidence, (terms, relation, (7, 1)), answer)
            self.assertIs(type(answer), tuple)
        self.assertEqual((evidence, terms), kept)


class CheckTest(Asking):
    def judge(self, yard, evidence, question, answer):
        """Asserts that check_answer says of an answer what the definition says; returns it."""
        terms, relation, bound = question
        right = is_right_answer(system_of(yard, evidence), questions.form_of(yard, terms), relation, bound, answer)
        if right:
            self.assertIsNone(check_answer(yard, evidence, question, answer))
        else:
            with self.assertRaises(BadPaper, msg=(yard, evidence, question, answer)):
                check_answer(yard, evidence, question, answer)
        return right

    def changed_row(self, row):
        at = self.source.randrange(len(row))
        number = fraction(row[at]) + self.source.choice((1, -1, LITTLE, -LITTLE, Fraction(1, 2)))
        return row[:at] + (pair_of(number),) + row[at + 1:]

    def changed_papers(self, paper):
        """Returns papers that differ from a paper in one part."""
        found = [("points",) + paper[1:], ("",) + paper[1:]]
        for at in range(1, len(paper)):
            part = paper[at]
            if paper[0] == "point" and at == 1:
                others = [pair_of(fraction(part) + step) for step in (1, -1, LITTLE, -LITTLE)]
            else:
                others = [part[:-1], part + ((0, 1),)] + ([self.changed_row(part)] if part else [])
            found += [paper[:at] + (other,) + paper[at + 1:] for other in others]
        return found

    def variants(self, answer):
        """Returns answers that differ from an answer in one part."""
        word, *parts = answer
        found = [(other,) + answer[1:] for other in ("", "maybe", word + " ", word.upper())]
        if word == "never":
            found += [("never", paper) for paper in self.changed_papers(parts[0])]
        elif word == "certain":
            papers = parts[0]
            found += [("certain", others) for others in ((), papers[:-1], papers + papers[:1], papers[::-1])]
            for at, paper in enumerate(papers):
                found += [("certain", papers[:at] + (other,) + papers[at + 1:]) for other in self.changed_papers(paper)]
        elif word == "impossible":
            side, paper = parts
            found += [("impossible", other, paper) for other in ("above", "below", "", "beside", "Above")]
            found += [("impossible", side, other) for other in self.changed_papers(paper)]
        else:
            found += [("open",) + pair for pair in ((parts[1], parts[0]), (parts[0],) * 2, (parts[1],) * 2)]
            for at in (0, 1):
                for other in (self.changed_row(parts[at]), parts[at][:-1], parts[at] + ((0, 1),), ()):
                    found.append(answer[:at + 1] + (other,) + answer[at + 2:])
        return found

    def test_answers_with_one_part_changed(self):
        right = wrong = 0
        for yard, evidence, terms, history in self.cases(60, 4):
            value = value_at(questions.form_of(yard, terms), row_of(*history))
            ends = span(system_of(yard, evidence), questions.form_of(yard, terms))
            for relation in RELATIONS:
                for bound in {value, *self.source.sample(self.bounds(ends), 2)}:
                    question = (terms, relation, bound)
                    for answer in self.variants(answer_of(yard, evidence, question)):
                        if self.judge(yard, evidence, question, answer):
                            right += 1
                        else:
                            wrong += 1
        self.assertGreater(wrong, 1000)
        self.assertGreater(right, 20)

    def test_never_changed(self):
        broken = EVIDENCE + [condition_of([0, 0, 1, 1, 0, 0], "<=", 5)]
        for relation in RELATIONS:
            question = (SECOND, relation, (7, 1))
            answer = answer_of(EXAMPLE, broken, question)
            self.assertEqual(answer[0], "never")
            for other in self.variants(answer):
                self.judge(EXAMPLE, broken, question, other)
            # Where there is a history, such a paper is not one.
            self.assertFalse(self.judge(EXAMPLE, EVIDENCE, question, answer[:1] + (("never", answer[1][1][:-1]),)))

    def test_answers_to_other_questions(self):
        bounds = [(5, 1), (6, 1), (13, 2), (10, 1), (11, 1)]
        answers = [answer_of(EXAMPLE, EVIDENCE, (SECOND, relation, bound)) for relation in RELATIONS
                   for bound in bounds]
        for relation in RELATIONS:
            for bound in bounds:
                accepted = [answer for answer in answers
                            if self.judge(EXAMPLE, EVIDENCE, (SECOND, relation, bound), answer)]
                self.assertEqual({answer[0] for answer in accepted},
                                 {answer_of(EXAMPLE, EVIDENCE, (SECOND, relation, bound))[0]})

    def test_papers_of_another_kind(self):
        yard = read_yard("1: +0 +0")
        evidence = [condition_of([1, 0], "<=", 3)]
        endless = ("endless", row_of(0, 0), row_of(0, 1))
        never = ("never", row_of(1))
        point = ("point", (3, 1), row_of(3, 0), row_of(1))
        low = ("point", (0, 1), row_of(0, 0), row_of(0))
        cases = [([(1, None, (1, 1))], endless), ([(0, None, (1, 1))], never), ([(0, None, (1, 1))], point)]
        for terms, paper in cases:
            for relation in RELATIONS:
                for bound in ((2, 1), (3, 1), (4, 1), (-1, 1)):
                    for answer in (("never", paper), ("certain", (paper,)), ("certain", (paper, low)),
                                   ("certain", (low, paper)), ("impossible", "above", paper),
                                   ("impossible", "below", paper)):
                        self.judge(yard, evidence, (terms, relation, bound), answer)
        self.assertIsNone(check_answer(yard, evidence, ([(0, None, (1, 1))], "<=", (3, 1)), ("certain", (point,))))
        self.assertIsNone(check_answer(yard, evidence, ([(0, None, (1, 1))], ">=", (4, 1)),
                                       ("impossible", "below", point)))
        self.assertIsNone(check_answer(yard, evidence, ([(0, None, (1, 1))], "=", (4, 1)),
                                       ("impossible", "below", point)))
        for relation, bound in ((">=", (3, 1)), ("=", (3, 1)), ("<=", (4, 1))):
            with self.assertRaises(BadPaper):
                check_answer(yard, evidence, ([(0, None, (1, 1))], relation, bound), ("impossible", "below", point))

    def test_both_papers_of_an_equation(self):
        yard, evidence, terms = read_yard("1: +0"), [condition_of([1], "=", 3)], [(0, None, (1, 1))]
        top, bottom = ("point", (3, 1), row_of(3), row_of(1)), ("point", (-3, 1), row_of(3), row_of(-1))
        for papers in ((top, bottom), (bottom, top), (top,), (bottom,), (top, top), (bottom, bottom),
                       (top, bottom, top), ()):
            for relation, wanted in (("=", (top, bottom)), ("<=", (top,)), (">=", (bottom,))):
                right = self.judge(yard, evidence, (terms, relation, (3, 1)), ("certain", papers))
                self.assertIs(right, papers == wanted)

    def test_histories_of_open_answers(self):
        yard, terms = read_yard("1: +0"), [(0, None, (1, 1))]
        evidence = [condition_of([1], "<=", 5)]
        rows = [row_of(0), row_of(3), row_of(4), row_of(5), row_of(6), row_of(-1), (), row_of(3, 3)]
        for relation in RELATIONS:
            for keeping in rows:
                for other in rows:
                    self.judge(yard, evidence, (terms, relation, (4, 1)), ("open", keeping, other))


if __name__ == "__main__":
    unittest.main()
