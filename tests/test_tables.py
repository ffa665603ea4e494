import copy
import random
import unittest
from fractions import Fraction

from kerbside.errors import Full, Missing, Never, NotAllowed
from kerbside.questions import answer_of, form_of, system_of
from kerbside.solve import greatest
from kerbside.tables import certain_weights, content_spans, weight_spans
from kerbside.yards import read_yard, yard_conditions

from helpers import (condition_of, dot, fraction, fractions, is_exact, is_right, is_right_answer, kept_evidence,
                     made_history, pair_of, random_yard, row_of, sources_of, turned)

TABLES = (content_spans, weight_spans, certain_weights)
LITTLE = Fraction(1, 10 ** 30)
EXAMPLE = read_yard("2: +0 +1 P0,1")
TOTAL = (((0, 1), (0, 1), (0, 1), (0, 1), (1, 1), (1, 1)), "=", (10, 1))
FIRST = (((1, 1), (1, 1), (0, 1), (0, 1), (0, 1), (0, 1)), "<=", (4, 1))
EVIDENCE = [TOTAL, FIRST]


def form_with(places, width):
    return (row_of(*[int(place in places) for place in range(width)]), (0, 1))


class Tables(unittest.TestCase):
    def setUp(self):
        self.source = random.Random(91)

    def cases(self, many, deeds=5):
        """Gives yards with lots, and evidence that a history keeps, with this history."""
        for turn in range(many):
            yard = random_yard(self.source, turn * 4 // many + 1, deeds, 1)
            history = made_history(self.source, yard)
            evidence = kept_evidence(self.source, len(history), history, self.source.randint(0, 5))
            yield yard, evidence, history

    def check_greatest(self, system, form, end):
        """Asserts by a paper, judged by its definition, that this is the greatest value, or that there is none."""
        paper = greatest(system, form)
        self.assertTrue(is_right(system, form, paper))
        if end is None:
            self.assertEqual(paper[0], "endless")
        else:
            self.assertEqual(paper[:2], ("point", end))

    def check_span(self, system, places, ends):
        """Asserts that these are the ends of the sum of the unknowns at the places."""
        form = form_with(places, system[0])
        self.assertIs(type(ends), tuple)
        least, most = ends
        self.assertTrue(is_exact(least) and (most is None or is_exact(most)))
        self.check_greatest(system, form, most)
        self.check_greatest(system, turned(form), (-least[0], least[1]))

    def check_answers(self, yard, evidence, terms, ends):
        """Asserts by right answers that each end is reached by some history, and that none is beyond it."""
        system, form = system_of(yard, evidence), form_of(yard, terms)
        least, most = ends
        wanted = [(">=", least, ("certain",)), ("<=", least, ("open", "certain")),
                  ("<=", pair_of(fraction(least) - LITTLE), ("impossible",))]
        if most is None:
            wanted += [("<=", (10 ** 40, 1), ("open",))]
        else:
            wanted += [("<=", most, ("certain",)), (">=", most, ("open", "certain")),
                       (">=", pair_of(fraction(most) + LITTLE), ("impossible",))]
        for relation, bound, words in wanted:
            answer = answer_of(yard, evidence, (terms, relation, bound))
            self.assertIn(answer[0], words, (yard, evidence, terms, ends))
            self.assertTrue(is_right_answer(system, form, relation, bound, answer))

    def lies(self, number, ends):
        return fraction(ends[0]) <= number and (ends[1] is None or number <= fraction(ends[1]))


class SpansTest(Tables):
    def test_examples(self):
        self.assertEqual(weight_spans(EXAMPLE, EVIDENCE), [((0, 1), (4, 1)), ((6, 1), (10, 1)), ((10, 1), (10, 1))])
        self.assertEqual(certain_weights(EXAMPLE, EVIDENCE), [(0, 1), (6, 1), (0, 1), (0, 1)])

    def test_known_contents(self):
        none = ((0, 1), (0, 1))
        self.assertEqual(content_spans(EXAMPLE, EVIDENCE), [[((0, 1), (4, 1)), none], [none, ((6, 1), (10, 1))],
                                                            [((0, 1), (4, 1)), ((6, 1), (10, 1))]])
        yard = read_yard("2: +0 +1 P0,1 D2/2")
        evidence = [condition_of([1] + [0] * 9, "=", 3), condition_of([0] * 3 + [1] + [0] * 6, "=", 5),
                    condition_of([0] * 6 + [1, 1, 0, 0], "=", 7)]
        self.assertEqual(content_spans(yard, evidence)[3:], [[((2, 1), (3, 1)), ((4, 1), (5, 1))],
                                                             [((0, 1), (1, 1)), ((0, 1), (1, 1))]])
        self.assertEqual(weight_spans(yard, evidence)[2:], [((8, 1), (8, 1)), ((7, 1), (7, 1)), ((1, 1), (1, 1))])

    def test_ends_that_there_are_not(self):
        yard = read_yard("3: +1 D0/3")
        self.assertEqual(content_spans(yard, []), [[((0, 1), (0, 1)), ((0, 1), None), ((0, 1), (0, 1))]] * 4)
        self.assertEqual(weight_spans(yard, []), [((0, 1), None)] * 4)
        low = condition_of([0] * 4 + [-1] + [0] * 7, "<=", Fraction(-7, 2))
        self.assertEqual(weight_spans(yard, [low]), [((7, 2), None)] * 2 + [((0, 1), None)] * 2)

    def test_spans_of_contents(self):
        endless = 0
        for yard, evidence, history in self.cases(60):
            system, found = system_of(yard, evidence), content_spans(yard, evidence)
            self.assertIs(type(found), list)
            self.assertEqual([(type(spans), len(spans)) for spans in found], [(list, yard[0])] * len(sources_of(yard)))
            for lot, spans in enumerate(found):
                for household, ends in enumerate(spans):
                    place = lot * yard[0] + household
                    self.assertTrue(self.lies(history[place], ends))
                    self.check_span(system, [place], ends)
                    endless += ends[1] is None
        self.assertGreater(endless, 30)

    def test_spans_of_weights(self):
        for yard, evidence, history in self.cases(60):
            system, found = system_of(yard, evidence), weight_spans(yard, evidence)
            self.assertEqual((type(found), len(found)), (list, len(sources_of(yard))))
            for lot, ends in enumerate(found):
                places = range(lot * yard[0], (lot + 1) * yard[0])
                self.assertTrue(self.lies(sum(history[place] for place in places), ends))
                self.check_span(system, places, ends)

    def test_questions_about_the_ends(self):
        for yard, evidence, _ in self.cases(24, 4):
            contents, weights = content_spans(yard, evidence), weight_spans(yard, evidence)
            for lot, spans in enumerate(contents):
                self.check_answers(yard, evidence, [(lot, None, (1, 1))], weights[lot])
                for household, ends in enumerate(spans):
                    self.check_answers(yard, evidence, [(lot, household, (1, 1))], ends)


class CertainWeightsTest(Tables):
    def test_least_values(self):
        above = 0
        for yard, evidence, history in self.cases(100):
            system, found = system_of(yard, evidence), certain_weights(yard, evidence)
            self.assertEqual((type(found), len(found)), (list, 4))
            self.assertEqual(found[yard[0]:], [(0, 1)] * (4 - yard[0]))
            for household in range(yard[0]):
                places = [lot * yard[0] + household for lot, (bringer, _) in enumerate(sources_of(yard))
                          if bringer == household]
                form = form_with(places, system[0])
                self.assertLessEqual(fraction(found[household]), dot(fractions(form[0]), history))
                self.check_greatest(system, turned(form), (-found[household][0], found[household][1]))
                above += found[household][0] > 0
        self.assertGreater(above, 30)

    def test_sums_of_several_lots(self):
        yard = read_yard("2: +0 +0 +1")
        both = condition_of([-1, 0, -1, 0, 0, 0], "<=", -9)
        self.assertEqual(certain_weights(yard, [both]), [(9, 1), (0, 1), (0, 1), (0, 1)])
        self.assertEqual(certain_weights(yard, [both, condition_of([0, 0, 0, 0, 0, 1], "=", Fraction(1, 3))]),
                         [(9, 1), (1, 3), (0, 1), (0, 1)])

    def test_only_what_was_brought(self):
        # What a household brought is counted once, though it is in each lot that came of it, too.
        yard = read_yard("2: +0 D0/2 +0 P1,3")
        self.assertEqual(certain_weights(yard, [condition_of([1] + [0] * 9, "=", 8)]), [(8, 1)] + [(0, 1)] * 3)

    def test_households_that_brought_nothing(self):
        for households in range(1, 5):
            for bringer in range(households):
                yard = (households, (("bring", bringer), ("part", 0, 2)))
                evidence = [condition_of([1] * households + [0] * 2 * households, "=", 4)]
                self.assertEqual(certain_weights(yard, evidence),
                                 [(4, 1) if household == bringer else (0, 1) for household in range(4)])


class ErrorsTest(Tables):
    def raises(self, error, yard, evidence):
        for table in TABLES:
            with self.assertRaises(error, msg=(table, yard, evidence)):
                table(yard, evidence)

    def test_in_order(self):
        row, relation, bound = FIRST
        never = [TOTAL, (TOTAL[0], "<=", (9, 1))]
        for households in range(1, 5):
            for evidence in ([], never, [(row, "<", (2, 4))], [FIRST] * 50):
                self.raises(Missing, (households, ()), evidence)
        for wrong in ((row[:5], relation, bound), (row + ((0, 1),), relation, bound), (row, ">=", bound),
                      (row, relation, (2, 4)), (((2, 2),) + row[1:], relation, bound)):
            for evidence in ([wrong], never + [wrong], [FIRST] * 50 + [wrong], [wrong] + never * 20):
                self.raises(NotAllowed, EXAMPLE, evidence)
        self.raises(Full, EXAMPLE, [FIRST] * 37)
        self.raises(Full, EXAMPLE, never * 19)
        self.raises(Never, EXAMPLE, never)

    def test_never(self):
        for yard, evidence, history in self.cases(40):
            row = [self.source.randint(0, 2) for _ in history]
            value = dot([Fraction(number) for number in row], history)
            for broken in ([condition_of([1] * len(history), "<=", -1)],
                           [condition_of(row, "=", value + 1), condition_of(row, "<=", value)]):
                self.raises(Never, yard, evidence + broken)
                self.raises(Never, yard, broken + evidence)

    def test_room_for_40_conditions(self):
        for yard, evidence, history in self.cases(8):
            room = 40 - len(yard_conditions(yard)) - len(evidence)
            spare = [condition_of([1] * len(history), "<=", sum(history))] * room
            self.assertEqual(len(weight_spans(yard, evidence + spare)), len(sources_of(yard)))
            self.raises(Full, yard, evidence + spare + spare[:1])

    def test_arguments_and_results(self):
        for yard, evidence, _ in self.cases(10):
            kept = copy.deepcopy((yard, evidence))
            for table in TABLES:
                found = table(yard, evidence)
                wanted = copy.deepcopy(found)
                for part in found:
                    if isinstance(part, list):
                        part.clear()
                found.clear()
                self.assertEqual(table(yard, evidence), wanted)
            self.assertEqual((yard, evidence), kept)

    def test_lists_of_different_lots(self):
        found = content_spans(read_yard("1: +0 +0"), [])
        found[0].append("more")
        self.assertEqual(found[1], [((0, 1), None)])


if __name__ == "__main__":
    unittest.main()
