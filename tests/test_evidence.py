import random
import unittest
from fractions import Fraction

from kerbside.book import Book
from kerbside.errors import Missing, Never, NotAllowed
from kerbside.evidence import conditions_of, finds_of
from kerbside.finds import check_finds
from kerbside.scales import counting, drawer_of
from kerbside.weighings import ends
from kerbside.yards import read_yard

from helpers import condition_of, fraction, random_entry, random_yard, row_of, sources_of, text_of

YARD = read_yard("2: +0 +1 P0,1 D2/2")
PAPER = (5, 20, (1, 2), (1, 100), (0, 1), 3)


def book_of(entries):
    book = Book()
    for entry in entries:
        book.add(entry)
    return book


def paper_of(number):
    """Returns one of many papers, different for different numbers."""
    return (0, 999, (number, 1), (1, 10), (0, 1), 0)


def counting_papers(entries, scale, day):
    """Returns the papers that count, in ascending order, by the definitions [3.2] and [9.1]."""
    found = []
    for paper in sorted({entry[2] for entry in entries if entry[:2] == ("paper", scale)}):
        recalls = [entry[3] for entry in entries if entry[:3] == ("recall", scale, paper)]
        if paper[0] <= day <= paper[1] and all(day < recall for recall in recalls):
            found.append(paper)
    return found


def wanted_conditions(yard, entries):
    """Returns the conditions of a book in which these entries stand, by the definitions [3.6] and [9.1]."""
    many = len(sources_of(yard))
    known, weighed = [], []
    for entry in sorted(set(entries), key=text_of):
        if entry[0] not in ("known", "weighing"):
            continue
        lots = entry[-2]
        places = [int(lot in lots) for lot in range(many) for _ in range(yard[0])]
        if entry[0] == "known":
            known.append((row_of(*places), "=", entry[2]))
            continue
        for _, _, zero, share, drift, checked in counting_papers(entries, entry[1], entry[2]):
            slack = fraction(zero) + fraction(drift) * (entry[2] - checked)
            share, reading = fraction(share), fraction(entry[4])
            weighed.append(condition_of([(1 - share) * place for place in places], "<=", reading + slack))
            weighed.append(condition_of([-(1 + share) * place for place in places], "<=", slack - reading))
    return known + weighed


class Evidence(unittest.TestCase):
    def setUp(self):
        self.source = random.Random(91)

    def raises(self, error, call, *told):
        with self.assertRaises(error, msg=told):
            call(*told)


class ConditionsTest(Evidence):
    def test_known_conditions(self):
        book = book_of([("weighing", "ab", 12, (3,), (7, 2)), ("paper", "ab", PAPER), ("known", (2,), (9, 1)),
                        ("known", (0, 1), (5, 3))])
        self.assertEqual(conditions_of(YARD, book), [
            condition_of([1, 1, 1, 1, 0, 0, 0, 0, 0, 0], "=", Fraction(5, 3)),
            condition_of([0, 0, 0, 0, 1, 1, 0, 0, 0, 0], "=", 9),
            condition_of([0] * 6 + [Fraction(99, 100)] * 2 + [0, 0], "<=", 4),
            condition_of([0] * 6 + [-Fraction(101, 100)] * 2 + [0, 0], "<=", -3)])

    def test_books_that_say_nothing(self):
        for yard in (YARD, (1, ()), (4, ()), read_yard("3: +2")):
            self.assertEqual(conditions_of(yard, Book()), [])
            self.assertEqual(conditions_of(yard, book_of([("paper", "ab", PAPER), ("find", 99, True),
                                                          ("recall", "ab", PAPER, 7)])), [])
        self.assertEqual(conditions_of(YARD, book_of([("weighing", "ab", 12, (3,), (7, 2))])), [])
        self.assertEqual(conditions_of(YARD, book_of([("weighing", "ab", 12, (3,), (7, 2)), ("paper", "abc", PAPER),
                                                      ("paper", "a", PAPER)])), [])

    def test_many_books(self):
        seen = 0
        for _ in range(300):
            yard = random_yard(self.source, self.source.randint(1, 4), 5, 1)
            lots = len(sources_of(yard))
            entries = [random_entry(self.source, None, lots) for _ in range(self.source.randint(0, 12))]
            for entry in list(entries):
                if entry[0] == "weighing":
                    day = entry[2]
                    for _ in range(self.source.randint(0, 2)):
                        paper = (max(day - 1, 0), day, *random_entry(self.source, "paper")[2][2:5], 0)
                        entries.append(("paper", entry[1], paper))
                        if self.source.random() < 0.4:
                            entries.append(("recall", entry[1], paper, self.source.choice((0, day, min(day + 1, 999)))))
            entries = entries[:24]
            if len({entry for entry in entries if entry[0] == "paper"}) > 12:
                continue
            self.source.shuffle(entries)
            book = book_of(entries)
            found = conditions_of(yard, book)
            self.assertEqual((found, type(found)), (wanted_conditions(yard, entries), list))
            found.clear()
            self.assertEqual(conditions_of(yard, book), wanted_conditions(yard, entries))
            self.assertEqual(book.evidence(), sorted(set(entries), key=text_of))
            seen += any(condition[1] == "<=" for condition in conditions_of(yard, book))
        self.assertGreater(seen, 60)

    def test_in_the_order_of_the_evidence(self):
        yard = read_yard("1: +0 +0 +0")
        entries = [("known", (2,), (1, 1)), ("known", (0, 2), (3, 1)), ("known", (0,), (2, 1)),
                   ("weighing", "z", 9, (1,), (1, 1)), ("weighing", "z", 10, (1,), (1, 1)),
                   ("weighing", "b", 9, (2,), (4, 1)), ("paper", "z", paper_of(2)), ("paper", "z", paper_of(1)),
                   ("paper", "b", paper_of(10))]
        bounds = [(2, 1), (3, 1), (1, 1), (14, 1), (6, 1), (2, 1), (0, 1), (3, 1), (1, 1), (2, 1), (0, 1), (3, 1),
                  (1, 1)]
        for _ in range(20):
            self.source.shuffle(entries)
            found = conditions_of(yard, book_of(entries))
            self.assertEqual([bound for _, _, bound in found], bounds)
            self.assertEqual([relation for _, relation, _ in found], ["="] * 3 + ["<="] * 10)

    def test_recalled_papers(self):
        entries = [("weighing", "ab", 12, (3,), (7, 2)), ("paper", "ab", PAPER)]
        for day, counts in ((0, False), (5, False), (11, False), (12, False), (13, True), (999, True)):
            book = book_of(entries + [("recall", "ab", PAPER, day)])
            self.assertEqual(len(conditions_of(YARD, book)), 2 * counts)
            self.assertEqual(len(conditions_of(YARD, book_of(entries + [("recall", "a", PAPER, day)]))), 2)
            other = PAPER[:2] + ((2, 3),) + PAPER[3:]
            self.assertEqual(len(conditions_of(YARD, book_of(entries + [("recall", "ab", other, day)]))), 2)
            book.withdraw(3)
            self.assertEqual(len(conditions_of(YARD, book)), 2)
            book.restore(3)
            book.correct(3, ("recall", "ab", PAPER, 13))
            self.assertEqual(len(conditions_of(YARD, book)), 2)
            book.withdraw(2)
            self.assertEqual(conditions_of(YARD, book), [])

    def test_12_and_13_papers(self):
        weighing = ("weighing", "ab", 12, (3,), (7, 2))
        for yard, more in ((YARD, [weighing]), (YARD, []), ((2, ()), [])):
            entries = more + [("paper", "ab", paper_of(number)) for number in range(12)]
            book = book_of(entries)
            self.assertEqual(len(conditions_of(yard, book)), 24 * len(more))
            book.add(("paper", "ab", paper_of(3)))
            self.assertEqual(len(conditions_of(yard, book)), 24 * len(more))
            book.add(("recall", "q", paper_of(77), 0))
            self.assertEqual(len(conditions_of(yard, book)), 24 * len(more))
            for thirteenth in (("paper", "ab", paper_of(12)), ("paper", "b", paper_of(3))):
                number = book.add(thirteenth)
                self.raises(NotAllowed, conditions_of, yard, book)
                book.withdraw(number)
                self.assertEqual(len(conditions_of(yard, book)), 24 * len(more))
            book.restore(number)
            recall = book.add(("recall", "b", paper_of(3), 0))
            self.raises(NotAllowed, conditions_of, yard, book)
            book.withdraw(recall)
            book.correct(number, ("paper", "ab", paper_of(0)))
            self.assertEqual(len(conditions_of(yard, book)), 24 * len(more))

    def test_lots_that_are_not_there(self):
        papers = [("paper", "ab", paper_of(number)) for number in range(13)]
        for yard in (YARD, (1, ()), read_yard("4: +3 D0/2")):
            many = len(sources_of(yard))
            for lots in ((many,), tuple(range(many + 1)), (99,), (many + 1, many + 3)):
                for entry in (("known", lots, (0, 1)), ("weighing", "ab", 12, lots, (7, 2)),
                              ("weighing", "ab", 900, lots, (7, 2))):
                    self.raises(Missing, conditions_of, yard, book_of([entry]))
                    self.raises(Missing, conditions_of, yard, book_of([entry] + papers))
                    self.raises(Missing, conditions_of, yard, book_of(papers + [entry]))
                    book = book_of([entry, ("paper", "ab", PAPER)])
                    book.withdraw(1)
                    self.assertEqual(conditions_of(yard, book), [])
        self.assertEqual(len(conditions_of(YARD, book_of([("known", (4,), (0, 1)), ("known", (0, 1, 2, 3, 4), (0, 1)),
                                                          ("find", 5, True)]))), 2)

    def test_conditions_and_ends(self):
        # Contents keep the conditions of a weighing just if their sum lies between its ends.
        yard = read_yard("2: +0 +1 +1")
        for _ in range(200):
            weighing = random_entry(self.source, "weighing", 3)
            papers = [("paper", weighing[1], random_entry(self.source, "paper")[2]) for _ in range(4)]
            recalls = [("recall",) + papers[0][1:] + (self.source.choice((0, 12, 999)),)]
            found = conditions_of(yard, book_of([weighing] + papers + recalls))
            drawer = drawer_of([entry[1:] for entry in papers], [entry[1:] for entry in recalls])
            self.assertEqual(len(found), 2 * len(counting(drawer, weighing[1], weighing[2])))
            contents = [Fraction(self.source.randint(0, 40), 4) for _ in range(6)]
            weight = sum(contents[2 * lot] + contents[2 * lot + 1] for lot in weighing[3])
            try:
                low, high = ends(drawer, weighing[1], weighing[2], weighing[4])
            except Never:
                within = False
            else:
                within = fraction(low) <= weight and (high is None or weight <= fraction(high))
            kept = all(sum(fraction(pair) * content for pair, content in zip(row, contents)) <= fraction(bound)
                       for row, _, bound in found)
            self.assertEqual(kept, within)


class FindsTest(Evidence):
    def test_in_ascending_order(self):
        yard = read_yard("1: +0 +0 +0 +0 +0 +0 +0 +0")
        for _ in range(60):
            finds = [(lot, self.source.random() < 0.5) for lot in range(8) if self.source.random() < 0.6]
            entries = [("find",) + find for find in finds] + [random_entry(self.source, "known") for _ in range(3)]
            entries += self.source.sample(entries, self.source.randint(0, len(entries)))
            self.source.shuffle(entries)
            found = finds_of(yard, book_of(entries))
            self.assertEqual((found, type(found)), (tuple(finds), tuple))
            check_finds(yard, found)

    def test_none(self):
        for yard in (YARD, (1, ()), (4, ())):
            self.assertEqual(finds_of(yard, Book()), ())
            self.assertEqual(finds_of(yard, book_of([("known", (77,), (1, 1)), ("paper", "ab", PAPER)])), ())

    def test_lots_that_are_not_there(self):
        for yard in (YARD, (1, ()), read_yard("4: +3 D0/2")):
            many = len(sources_of(yard))
            for lot in (many, many + 1, 10, 99):
                for has in (True, False):
                    book = book_of([("find", lot, has)])
                    self.raises(Missing, finds_of, yard, book)
                    book.add(("find", lot, not has))
                    self.raises(Missing, finds_of, yard, book)
                    book.withdraw(1)
                    book.withdraw(2)
                    self.assertEqual(finds_of(yard, book), ())

    def test_two_finds_of_a_lot(self):
        for lot in range(5):
            for has in (True, False):
                book = book_of([("find", lot, has), ("find", (lot + 1) % 5, True), ("find", lot, not has)])
                self.raises(Never, finds_of, YARD, book)
                # A lot that is not there comes first.
                number = book.add(("find", 5, True))
                self.raises(Missing, finds_of, YARD, book)
                book.withdraw(number)
                self.raises(Never, finds_of, YARD, book)
                book.withdraw(3)
                self.assertEqual(finds_of(YARD, book), tuple(sorted([(lot, has), ((lot + 1) % 5, True)])))
                book.restore(3)
                book.correct(3, ("find", lot, has))
                self.assertEqual(finds_of(YARD, book), tuple(sorted([(lot, has), ((lot + 1) % 5, True)])))


if __name__ == "__main__":
    unittest.main()
