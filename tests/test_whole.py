"""What the document promises over several modules: true contents and true entries, noted in many ways."""

import math
import random
import unittest
from fractions import Fraction

from kerbside.accounts import Accounts, load_accounts
from kerbside.bills import bill_of, check_bill
from kerbside.book import Book, load_book
from kerbside.desk import run_script
from kerbside.entries import check_entry
from kerbside.evidence import conditions_of, finds_of
from kerbside.papers import is_history
from kerbside.questions import answer_of, check_answer, form_of, system_of
from kerbside.scales import drawer_of
from kerbside.sources import can_be, cannot_be, explanations, must_be
from kerbside.tables import certain_weights, content_spans, weight_spans
from kerbside.weighings import ends
from kerbside.yards import yard_conditions, yard_text

from helpers import (errors_of, fraction, fractions, is_kept, made_history, pair_of, random_entry, random_yard,
                     row_of, sources_of, text_of, ways_of)


def brought(yard, history, household):
    """Returns what a household truly brought."""
    return sum(history[lot * yard[0] + household] for lot, (bringer, _) in enumerate(sources_of(yard))
               if bringer == household)


def weight_of(yard, history, lots):
    """Returns what some lots truly weigh together."""
    return sum(sum(history[lot * yard[0]:(lot + 1) * yard[0]]) for lot in lots)


def book_of(entries):
    book = Book()
    for entry in entries:
        book.add(entry)
    return book


def is_within(inner, outer):
    """Tells whether no end of the inner span is outside of the outer one."""
    if fraction(inner[0]) < fraction(outer[0]):
        return False
    return outer[1] is None or (inner[1] is not None and fraction(inner[1]) <= fraction(outer[1]))


class Whole(unittest.TestCase):
    def setUp(self):
        self.source = random.Random(97)

    def drawn_lots(self, many):
        return tuple(sorted(self.source.sample(range(many), self.source.choice([1] * 4 + [min(2, many)]))))

    def true_reading(self, yard, history, papers, lots, scale, day):
        """Returns a reading that all papers allow, whether they are recalled or not."""
        weight = weight_of(yard, history, lots)
        spread = [slack + share * weight for slack, share in errors_of([each[1:] + (None,) for each in papers], scale,
                                                                       day)]
        room = min(spread, default=Fraction(5))
        return max(Fraction(0), weight + room * Fraction(self.source.randint(-4, 4), 4))

    def true_entries(self, yard, history, recalls=True):
        """Returns entries that are true for a yard with these contents, and the households of what was found."""
        many = len(sources_of(yard))
        papers = [random_entry(self.source, "paper") for _ in range(self.source.randint(1, 3))]
        papers = [(word, "ab"[at % 2], paper) for at, (word, _, paper) in enumerate(papers)]
        entries = list(papers)
        for _ in range(self.source.randint(0, 4)):
            _, scale, paper = self.source.choice(papers)
            day, lots = self.source.randint(paper[0], min(paper[1], paper[0] + 9)), self.drawn_lots(many)
            reading = self.true_reading(yard, history, papers, lots, scale, day)
            entries.append(("weighing", scale, day, lots, pair_of(reading)))
        for _ in range(self.source.randint(0, 2)):
            lots = self.drawn_lots(many)
            entries.append(("known", lots, pair_of(weight_of(yard, history, lots))))
        if recalls and self.source.random() < 0.4:
            _, scale, paper = self.source.choice(papers)
            entries.append(("recall", scale, paper, min(paper[0] + self.source.randint(0, 5), 999)))
        every = [(household, way) for household in range(yard[0]) for way in ways_of(yard, household)]
        gone = self.source.sample(every, self.source.randint(0, min(2, len(every))))
        held = {lot for _, way in gone for lot in way}
        entries += [("find", lot, lot in held) for lot in range(many) if self.source.random() < 0.3]
        self.source.shuffle(entries)
        for entry in entries:
            check_entry(entry)
        return entries, sorted({household for household, _ in gone})

    def cases(self, many, recalls=True):
        """Gives yards with true contents, true entries and true sources; there is room for the conditions."""
        found = 0
        while found < many:
            yard = random_yard(self.source, found % 4 + 1, 5, 1)
            history = made_history(self.source, yard)
            entries, sources = self.true_entries(yard, history, recalls)
            if len(yard_conditions(yard)) + len(conditions_of(yard, book_of(entries))) <= 40:
                found += 1
                yield yard, history, entries, sources


class TrueEntriesTest(Whole):
    def test_true_contents_are_a_history(self):
        said = 0
        for yard, history, entries, _ in self.cases(120):
            conditions = conditions_of(yard, book_of(entries))
            self.assertTrue(is_history(system_of(yard, conditions), row_of(*history)))
            said += conditions != []
        self.assertGreater(said, 70)

    def test_spans_have_the_true_contents(self):
        for yard, history, entries, _ in self.cases(60):
            conditions = conditions_of(yard, book_of(entries))
            for lot, ends_of_weight in enumerate(weight_spans(yard, conditions)):
                self.assertTrue(is_within((pair_of(weight_of(yard, history, [lot])),) * 2, ends_of_weight))
            for lot, spans in enumerate(content_spans(yard, conditions)):
                for household, ends_of_content in enumerate(spans):
                    self.assertTrue(is_within((pair_of(history[lot * yard[0] + household]),) * 2, ends_of_content))

    def test_questions(self):
        seen = set()
        for yard, history, entries, _ in self.cases(80):
            conditions = conditions_of(yard, book_of(entries))
            for _ in range(4):
                terms = [(self.source.randrange(len(sources_of(yard))),
                          self.source.choice((None, self.source.randrange(yard[0]))), pair_of(factor))
                         for factor in self.source.choice(((1,), (1, -1), (Fraction(1, 2), 2)))]
                row = fractions(form_of(yard, terms)[0])
                value = sum(factor * content for factor, content in zip(row, history))
                relation = self.source.choice(("<=", ">=", "="))
                bound = value + self.source.choice((0, 0, 1, -1, Fraction(1, 7)))
                question = (terms, relation, pair_of(bound))
                answer = answer_of(yard, conditions, question)
                kept = is_kept(relation, value, bound)
                self.assertIn(answer[0], ("certain", "open") if kept else ("impossible", "open"))
                self.assertIsNone(check_answer(yard, conditions, question, answer))
                seen.add((answer[0], kept))
        self.assertEqual(len(seen), 4)

    def test_certain_weights_and_bills(self):
        charged = 0
        for yard, history, entries, _ in self.cases(60):
            conditions = conditions_of(yard, book_of(entries))
            weights = certain_weights(yard, conditions)
            accounts = Accounts([100, 7, 999, 1])
            accounts.settle(weights)
            for household in range(yard[0]):
                self.assertLessEqual(fraction(weights[household]), brought(yard, history, household))
                terms = [(lot, household, (1, 1)) for lot, (bringer, _) in enumerate(sources_of(yard))
                         if bringer == household]
                system, form = system_of(yard, conditions), form_of(yard, terms)
                bill = bill_of(system, form, accounts.price(household))
                self.assertIsNone(check_bill(system, form, bill))
                self.assertEqual(bill[1:3], (weights[household], accounts.balance(household)))
                charged += bill[2] > 0
            self.assertEqual([accounts.balance(household) for household in range(yard[0], 4)], [0] * (4 - yard[0]))
        self.assertGreater(charged, 20)

    def test_weighings_one_by_one(self):
        for yard, history, entries, _ in self.cases(60):
            book = book_of(entries)
            drawer = drawer_of(book.of_kind("paper"), book.of_kind("recall"))
            for scale, day, lots, reading in book.of_kind("weighing"):
                conditions = conditions_of(yard, book)
                weight = weight_of(yard, history, lots)
                low, high = ends(drawer, scale, day, reading)
                self.assertTrue(is_within((pair_of(weight),) * 2, (low, high)))
                if len(lots) == 1:
                    self.assertTrue(is_within(weight_spans(yard, conditions)[lots[0]], (low, high)))

    def test_sources(self):
        for yard, _, entries, sources in self.cases(120):
            finds = finds_of(yard, book_of(entries))
            self.assertIn(tuple(sources), explanations(yard, finds))
            self.assertLessEqual(set(must_be(yard, finds)), set(sources))
            self.assertLessEqual(set(sources), set(can_be(yard, finds)))
            self.assertFalse(set(sources) & set(cannot_be(yard, finds)))


class OtherWaysTest(Whole):
    def noted(self, entries):
        """Returns a book in which just these entries stand, behind other records, corrections and strikes."""
        book = Book()
        for entry in self.source.sample(entries, len(entries)):
            chance = self.source.random()
            if chance < 0.3:
                number = book.add(random_entry(self.source, entry[0]))
                book.correct(number, random_entry(self.source, entry[0]))
                book.correct(number, entry)
            else:
                number = book.add(entry)
            if chance > 0.6:
                book.withdraw(number)
                book.restore(number)
            if chance > 0.8 and book.size() < 20:
                book.withdraw(book.add(random_entry(self.source)))
                book.add(entry)
        return load_book(book.image())

    def test_the_same_entries(self):
        for yard, _, entries, _ in self.cases(60):
            first, second = book_of(entries), self.noted(entries)
            self.assertEqual(first.evidence(), second.evidence())
            conditions = conditions_of(yard, first)
            self.assertEqual(conditions_of(yard, second), conditions)
            self.assertEqual(finds_of(yard, second), finds_of(yard, first))
            self.assertEqual(weight_spans(yard, conditions_of(yard, second)), weight_spans(yard, conditions))
            self.assertEqual(certain_weights(yard, conditions_of(yard, second)), certain_weights(yard, conditions))
            for relation in ("<=", ">=", "="):
                question = ([(0, None, (1, 1))], relation, (self.source.randint(0, 9), 1))
                self.assertEqual(answer_of(yard, conditions_of(yard, second), question)[0],
                                 answer_of(yard, conditions, question)[0])

    def test_scripts(self):
        asked = ["weight 0", "from 0 0", "sure", "price 10 20 30 40", "bill", "ask >= 3 1*0", "few", "can", "search"]
        for yard, _, entries, _ in self.cases(60):
            answers = []
            for book in (book_of(entries), self.noted(entries)):
                lines = [f"yard {yard_text(yard)}"] + ["note " + text_of(entry) for entry in book.evidence()]
                for number in range(1, len(book.evidence()) + 1):
                    if self.source.random() < 0.3:
                        lines += [f"strike {number}", f"again {number}"]
                answers.append(run_script("\n".join(lines[:40 - len(asked)] + asked))[-len(asked):])
            self.assertEqual(*answers)


class AddedAndTakenBackTest(Whole):
    def test_settlings_behind_each_entry(self):
        # A recall takes evidence back, so there are none here.
        charged = 0
        for yard, history, entries, _ in self.cases(40, False):
            prices = [self.source.randint(0, 999) for _ in range(4)]
            accounts, book = Accounts(prices), Book()
            papers = [entry for entry in entries if entry[0] == "paper"]
            for entry in self.source.sample(entries, len(entries)) + papers:
                book.add(entry)
                new = accounts.settle(certain_weights(yard, conditions_of(yard, book)))
                self.assertEqual([kind for _, _, kind, _ in new], ["charge"] * len(new))
                for household in range(yard[0]):
                    self.assertLessEqual(accounts.balance(household),
                                         math.floor(prices[household] * brought(yard, history, household)))
                charged += len(new)
            self.assertEqual(load_accounts(accounts.image()).notes(), accounts.notes())
        self.assertGreater(charged, 20)

    def test_striking_a_record(self):
        moved = 0
        for yard, _, entries, _ in self.cases(40, False):
            book, accounts = book_of(entries), Accounts([999, 999, 999, 999])
            before, balances = weight_spans(yard, conditions_of(yard, book)), None
            for number in self.source.sample(range(1, len(entries) + 1), len(entries)):
                accounts.settle(certain_weights(yard, conditions_of(yard, book)))
                balances = [accounts.balance(household) for household in range(4)]
                book.withdraw(number)
                accounts.settle(certain_weights(yard, conditions_of(yard, book)))
                for household in range(4):
                    self.assertLessEqual(accounts.balance(household), balances[household])
                after = weight_spans(yard, conditions_of(yard, book))
                for inner, outer in zip(before, after):
                    self.assertTrue(is_within(inner, outer))
                moved += before != after
                before = after
            self.assertEqual([accounts.balance(household) for household in range(4)], [0] * 4)
            self.assertEqual(before, weight_spans(yard, []))
        self.assertGreater(moved, 40)

    def test_recalling_a_paper(self):
        for yard, _, entries, _ in self.cases(60, False):
            book = book_of(entries)
            before = weight_spans(yard, conditions_of(yard, book))
            weights = certain_weights(yard, conditions_of(yard, book))
            for scale, paper in book.of_kind("paper"):
                book.add(("recall", scale, paper, min(paper[0] + self.source.randint(0, 4), 999)))
                after = weight_spans(yard, conditions_of(yard, book))
                for inner, outer in zip(before, after):
                    self.assertTrue(is_within(inner, outer))
                before = after
                for old, new in zip(weights, certain_weights(yard, conditions_of(yard, book))):
                    self.assertLessEqual(fraction(new), fraction(old))


if __name__ == "__main__":
    unittest.main()
