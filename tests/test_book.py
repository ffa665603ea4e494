import copy
import random
import unittest

from kerbside.book import MAX_RECORDS, MAX_VERSIONS, Book, load_book
from kerbside.entries import KINDS
from kerbside.errors import BadForm, Full, Missing, NotAllowed

from helpers import entry_in, random_entry, text_of

FIND = ("find", 4, True)
OTHER_FIND = ("find", 4, False)
KNOWN = ("known", (0, 3), (9, 1))
WEIGHING = ("weighing", "ab", 12, (0, 3), (7, 2))
PAPER = ("paper", "ab", (5, 20, (1, 2), (1, 100), (0, 1), 3))
RECALL = ("recall", "ab", (5, 20, (1, 2), (1, 100), (0, 1), 3), 9)
EACH = (FIND, KNOWN, WEIGHING, PAPER, RECALL)
NO_ENTRIES = (("find", 100, True), ("find", -1, True), ("find", 4), ("find", 4, True, 1), ("sum", 4, True),
              ("known", (3, 0), (9, 1)), ("known", (0, 3), (2, 4)), ("known", (0, 3), (-1, 1)), ("weighing", "AB", 1),
              ("weighing", "ab", 1000, (0,), (1, 1)), ("paper", "ab", (5, 4, (1, 2), (1, 100), (0, 1), 3)),
              ("recall", "ab", (5, 20, (1, 2), (1, 1), (0, 1), 3), 9), ("known", (1,), (10 ** 60, 1)))


class Plain:
    """A book by the definitions [7.3] to [7.6], of plain lists."""

    def __init__(self, records=()):
        self.records = [[list(versions), stands] for versions, stands in records]

    def known(self, number):
        return 1 <= number <= len(self.records)

    def error(self, word, *told):
        """Returns the error that a call is due to raise, None if there is none."""
        if word != "add" and not self.known(told[0]):
            return Missing
        if word in ("add", "correct"):
            if entry_in(text_of(told[-1])) != told[-1]:
                return NotAllowed
            if word == "add":
                return Full if len(self.records) == 30 else None
            versions = self.records[told[0] - 1][0]
            if versions[0][0] != told[1][0]:
                return NotAllowed
            return Full if len(versions) == 6 else None
        return NotAllowed if self.records[told[0] - 1][1] == (word == "restore") else None

    def do(self, word, *told):
        """Does what a call without an error does, and returns what it returns."""
        if word == "add":
            self.records.append([[told[0]], True])
            return len(self.records)
        if word == "correct":
            self.records[told[0] - 1][0].append(told[1])
        else:
            self.records[told[0] - 1][1] = word == "restore"
        return None

    def evidence(self):
        present = {text_of(versions[-1]): versions[-1] for versions, stands in self.records if stands}
        return [entry for _, entry in sorted(present.items())]

    def image(self):
        return ";".join("-+"[stands] + ">".join(map(text_of, versions)) for versions, stands in self.records)


class Books(unittest.TestCase):
    def setUp(self):
        self.source = random.Random(73)

    def same(self, book, plain):
        """Asserts that the book tells what the plain one is."""
        self.assertEqual(book.size(), len(plain.records))
        self.assertEqual(book.standing(), [at + 1 for at, (_, stands) in enumerate(plain.records) if stands])
        for at, (versions, stands) in enumerate(plain.records):
            self.assertIs(book.stands(at + 1), stands)
            self.assertEqual(book.versions(at + 1), versions)
        self.assertEqual(book.evidence(), plain.evidence())
        for kind in KINDS:
            self.assertEqual(book.of_kind(kind), [entry[1:] for entry in plain.evidence() if entry[0] == kind])
        self.assertEqual(book.image(), plain.image())
        self.missing(book)

    def missing(self, book):
        for number in (0, -1, -book.size(), book.size() + 1, book.size() + 40, -10 ** 20, 10 ** 20):
            for call in (book.stands, book.versions, book.withdraw, book.restore):
                self.raises(Missing, call, number)

    def raises(self, error, call, *told):
        with self.assertRaises(error, msg=told):
            call(*told)

    def call(self, book, plain, word, *told):
        """Calls a method of the book, and compares what comes of it. Returns the error that was due."""
        error = plain.error(word, *told)
        if error is None:
            self.assertEqual(getattr(book, word)(*told), plain.do(word, *told))
        else:
            self.raises(error, getattr(book, word), *told)
        return error

    def drawn_call(self, plain, most=8):
        """Returns a call for a book of up to about so many records."""
        size = len(plain.records)
        word = self.source.choice(("add", "correct", "correct", "withdraw", "restore"))
        if word == "add" and size >= most and self.source.random() < 0.9:
            word = "withdraw"
        number = self.source.randint(-1, size + 1)
        if word in ("withdraw", "restore"):
            return (word, number)
        kind = None
        if word == "correct" and 1 <= number <= size and self.source.random() < 0.8:
            kind = plain.records[number - 1][0][0][0]
        return (word,) + (number,) * (word == "correct") + (random_entry(self.source, kind, 2),)

    def drawn_book(self, calls):
        book, plain = Book(), Plain()
        for _ in range(calls):
            self.call(book, plain, *self.drawn_call(plain))
        return book, plain


class CallsTest(Books):
    def test_example(self):
        book = Book()
        self.assertEqual([book.add(("find", 4, True)), book.add(("known", (0, 3), (9, 1)))], [1, 2])
        self.assertIsNone(book.correct(1, ("find", 4, False)))
        self.assertIsNone(book.withdraw(2))
        self.assertEqual(book.image(), "+find 4 yes>find 4 no;-known 0,3 9")
        self.assertEqual(book.evidence(), [("find", 4, False)])

    def test_constants_and_the_empty_book(self):
        self.assertEqual((MAX_RECORDS, MAX_VERSIONS), (30, 6))
        self.same(Book(), Plain())
        self.assertEqual((Book().size(), Book().standing(), Book().evidence(), Book().image()), (0, [], [], ""))

    def test_rows_of_calls(self):
        errors = {}
        for turn in range(80):
            book, plain = Book(), Plain()
            for _ in range(60):
                error = self.call(book, plain, *self.drawn_call(plain, (1, 3, 8)[turn % 3]))
                errors[error] = errors.get(error, 0) + 1
            self.same(book, plain)
        self.assertEqual(set(errors), {None, Missing, NotAllowed, Full})
        self.assertGreater(min(errors.values()), 20)

    def test_each_step(self):
        for _ in range(6):
            book, plain = Book(), Plain()
            for _ in range(60):
                self.call(book, plain, *self.drawn_call(plain))
                self.same(book, plain)

    def test_30_records(self):
        book, plain = Book(), Plain()
        for number in range(1, 31):
            self.assertEqual(book.size(), number - 1)
            self.assertEqual(self.call(book, plain, "add", random_entry(self.source)), None)
        for entry in EACH:
            self.raises(Full, book.add, entry)
        for entry in NO_ENTRIES:
            self.raises(NotAllowed, book.add, entry)
        for number in range(1, 31):
            book.withdraw(number)
        self.raises(Full, book.add, FIND)
        self.assertEqual((book.size(), book.standing(), book.evidence()), (30, [], []))

    def test_6_versions(self):
        for entry in EACH:
            book = Book()
            book.add(entry)
            book.add(entry)
            for many in range(1, 6):
                self.assertEqual(book.versions(1), [entry] * many)
                self.assertIsNone(book.correct(1, entry))
            self.raises(Full, book.correct, 1, entry)
            book.withdraw(1)
            self.raises(Full, book.correct, 1, entry)
            self.assertEqual(book.versions(1), [entry] * 6)
            self.assertIsNone(book.correct(2, entry))
            for wrong in NO_ENTRIES:
                self.raises(NotAllowed, book.correct, 1, wrong)
            for other in EACH:
                if other[0] != entry[0]:
                    self.raises(NotAllowed, book.correct, 1, other)
                    self.raises(NotAllowed, book.correct, 2, other)
                    self.raises(Missing, book.correct, 3, other)

    def test_errors_in_order(self):
        book = Book()
        for entry in EACH + NO_ENTRIES:
            for number in (0, 1, -1):
                self.raises(Missing, book.correct, number, entry)
        book.add(FIND)
        for entry in EACH + NO_ENTRIES:
            for number in (0, 2, -1):
                self.raises(Missing, book.correct, number, entry)
        for entry in NO_ENTRIES:
            self.raises(NotAllowed, book.add, entry)
            self.raises(NotAllowed, book.correct, 1, entry)
        self.assertEqual(book.image(), "+find 4 yes")

    def test_withdrawn_and_restored(self):
        book = Book()
        book.add(FIND)
        book.add(KNOWN)
        for _ in range(3):
            self.raises(NotAllowed, book.restore, 1)
            self.assertIsNone(book.withdraw(1))
            self.assertEqual((book.standing(), book.stands(1), book.stands(2)), ([2], False, True))
            self.raises(NotAllowed, book.withdraw, 1)
            self.assertIsNone(book.restore(1))
            self.assertEqual((book.standing(), book.stands(1)), ([1, 2], True))

    def test_withdrawn_records_are_corrected_too(self):
        book = Book()
        book.add(FIND)
        book.withdraw(1)
        self.assertIsNone(book.correct(1, OTHER_FIND))
        self.assertEqual((book.stands(1), book.versions(1), book.evidence()), (False, [FIND, OTHER_FIND], []))
        book.restore(1)
        self.assertEqual((book.versions(1), book.evidence()), ([FIND, OTHER_FIND], [OTHER_FIND]))

    def test_refused_calls_change_nothing(self):
        for _ in range(40):
            book, plain = self.drawn_book(40)
            for entry in NO_ENTRIES:
                self.raises(NotAllowed, book.add, entry)
                self.raises(Missing, book.correct, book.size() + 1, entry)
                for number in range(1, book.size() + 1):
                    self.raises(NotAllowed, book.correct, number, entry)
            for number in range(1, book.size() + 1):
                self.raises(NotAllowed, book.restore if book.stands(number) else book.withdraw, number)
            self.same(book, plain)

    def test_two_books(self):
        first, second = self.drawn_book(30), self.drawn_book(30)
        for _ in range(60):
            book, plain = self.source.choice((first, second))
            self.call(book, plain, *self.drawn_call(plain))
            self.same(*first)
            self.same(*second)
        self.same(Book(), Plain())

    def test_lists_that_were_returned(self):
        book, plain = self.drawn_book(60)
        for found in (book.standing(), book.evidence(), book.versions(1), *[book.of_kind(kind) for kind in KINDS]):
            found.append("more")
            found.reverse()
            del found[1:]
        self.same(book, plain)

    def test_entries_stay(self):
        for entry in EACH:
            kept = copy.deepcopy(entry)
            book = Book()
            book.add(entry)
            book.correct(1, entry)
            self.assertEqual(entry, kept)


class EvidenceTest(Books):
    def test_each_entry_once_in_order_of_texts(self):
        book = Book()
        for lot in (2, 10, 1, 2, 11, 10, 9):
            book.add(("find", lot, True))
        book.add(("find", 2, False))
        book.add(WEIGHING)
        book.add(KNOWN)
        self.assertEqual(book.evidence(), [("find", 1, True), ("find", 10, True), ("find", 11, True),
                                           ("find", 2, False), ("find", 2, True), ("find", 9, True), KNOWN, WEIGHING])
        self.assertEqual(book.of_kind("find"), [(1, True), (10, True), (11, True), (2, False), (2, True), (9, True)])
        self.assertEqual(book.of_kind("known"), [((0, 3), (9, 1))])
        self.assertEqual(book.of_kind("weighing"), [("ab", 12, (0, 3), (7, 2))])
        self.assertEqual((book.of_kind("paper"), book.of_kind("recall")), ([], []))

    def test_no_kinds(self):
        book = Book()
        for entry in EACH:
            book.add(entry)
        for word in ("", "Find", "finds", "find ", "papers", "sum", "kind", "a"):
            self.raises(NotAllowed, book.of_kind, word)
            self.raises(NotAllowed, Book().of_kind, word)
        self.assertEqual([book.of_kind(kind) for kind in KINDS], [[entry[1:]] for entry in (FIND, KNOWN, PAPER, RECALL,
                                                                                            WEIGHING)])

    def test_an_entry_in_two_records(self):
        book = Book()
        book.add(FIND)
        book.add(FIND)
        self.assertEqual(book.evidence(), [FIND])
        for number in (1, 2):
            book.withdraw(number)
            self.assertEqual((book.evidence(), book.of_kind("find")), ([FIND], [FIND[1:]]))
            book.restore(number)
        book.withdraw(1)
        book.withdraw(2)
        self.assertEqual(book.evidence(), [])

    def test_corrections_undone(self):
        book = Book()
        book.add(FIND)
        book.add(OTHER_FIND)
        book.correct(1, OTHER_FIND)
        self.assertEqual(book.evidence(), [OTHER_FIND])
        book.correct(1, FIND)
        self.assertEqual(book.evidence(), [OTHER_FIND, FIND])
        book.correct(2, FIND)
        self.assertEqual(book.evidence(), [FIND])

    def test_the_same_entries_in_another_way(self):
        for _ in range(60):
            _, plain = self.drawn_book(40)
            entries = plain.evidence()
            other, wanted = Book(), list(entries)
            self.source.shuffle(entries)
            for entry in entries:
                number = other.add(random_entry(self.source, entry[0]) if self.source.random() < 0.5 else entry)
                if self.source.random() < 0.3:
                    other.withdraw(other.add(random_entry(self.source)))
                if other.versions(number) != [entry]:
                    other.correct(number, entry)
                if self.source.random() < 0.3:
                    other.withdraw(number)
                    other.restore(number)
                if self.source.random() < 0.2:
                    other.add(entry)
            self.assertEqual(other.evidence(), wanted)


class ImageTest(Books):
    def read(self, text):
        """Reads a text, and compares what comes of it with what is due. Tells whether it is an image."""
        plain = self.plain_of(text)
        if plain is None:
            self.raises(BadForm, load_book, text)
            return False
        book = load_book(text)
        self.assertIs(type(book), Book)
        self.assertEqual(book.image(), text)
        self.same(book, plain)
        return True

    def plain_of(self, text):
        """Returns the plain book of an image by [7.6], None if the text is no image."""
        parts = text.split(";") if text else []
        records = [([entry_in(version) for version in part[1:].split(">")], part[:1] == "+") for part in parts]
        right = len(parts) <= 30 and all(part[:1] in ("+", "-") for part in parts)
        for versions, _ in records:
            right = right and None not in versions and len(versions) <= 6
            right = right and len({version[0] for version in versions}) == 1
        return Plain(records) if right else None

    def test_images_come_back(self):
        self.assertTrue(self.read(""))
        for turn in range(60):
            book, plain = self.drawn_book(turn)
            self.assertTrue(self.read(book.image()))
            other = load_book(book.image())
            for _ in range(20):
                call = self.drawn_call(plain)
                with_error = plain.error(*call)
                for each in (book, other):
                    if with_error is None:
                        found = getattr(each, call[0])(*call[1:])
                    else:
                        self.raises(with_error, getattr(each, call[0]), *call[1:])
                if with_error is None:
                    self.assertEqual(found, plain.do(*call))
            self.same(book, plain)
            self.same(other, plain)

    def test_full_books(self):
        text = ";".join(["+find 4 yes"] * 30)
        self.assertTrue(self.read(text))
        self.raises(Full, load_book(text).add, FIND)
        self.assertFalse(self.read(text + ";+find 4 yes"))
        self.assertFalse(self.read(text + ";-known 0,3 9"))
        self.assertFalse(self.read(";".join(["-find 4 yes"] * 3000)))
        versions = ">".join(["find 4 yes"] * 6)
        for mark in "+-":
            self.assertTrue(self.read(mark + versions))
            self.raises(Full, load_book(mark + versions).correct, 1, FIND)
            self.assertFalse(self.read(mark + versions + ">find 4 yes"))
            self.assertFalse(self.read(f"+find 1 no;{mark}{versions}>find 4 no"))
        self.assertTrue(self.read(";".join(["-" + versions] * 30)))

    def test_spoilt_images(self):
        good = "+find 4 yes>find 4 no;-known 0,3 9;+weighing ab 12 0,3 7/2;-find 1 no>find 2 no>find 3 no"
        self.assertTrue(self.read(good))
        for at in range(len(good) + 1):
            self.read(good[:at] + good[at + 1:])
            self.read(good[:at])
            self.read(good[at:])
            for sign in ("+", "-", ";", ">", " ", "0", "5", ",", "/", "a", "*", "<", "\n"):
                self.read(good[:at] + sign + good[at:])
                self.read(good[:at] + sign + good[at + 1:])
        for text in (good + ";", ";" + good, good.replace(";", ";;"), good + ">", good.replace(";", ">"), good + ";+",
                     good + ";-", good + ";find 4 yes", good.replace("+", "*"), good.replace("+", ""), "+", "-", ";",
                     ">", " ", "find 4 yes", "+find 4 yes>", "+>find 4 yes", "+find 4 yes>>find 4 no", "++find 4 yes",
                     "+ find 4 yes", "+find 4 yes ", "+find 4 yes; +find 4 no", "+find 4 yes>known 0,3 9",
                     "+known 0,3 9>find 4 yes", "-find 4 yes>find 4 no>weighing ab 12 0,3 7/2", "+find 04 yes",
                     "+find 4 yes>+find 4 no", "+find 4 yes\n", "+find 4 yes,+find 4 no", "+paper ab 5 4 0 0 0 3"):
            self.assertFalse(self.read(text), text)

    def test_versions_left_out_and_exchanged(self):
        for _ in range(40):
            book, plain = self.drawn_book(40)
            for at, (versions, stands) in enumerate(plain.records):
                for place in range(len(versions)):
                    changed = copy.deepcopy(plain)
                    del changed.records[at][0][place]
                    self.assertEqual(self.read(changed.image()), len(versions) > 1)
                    changed.records[at][0].insert(place, random_entry(self.source))
                    self.assertEqual(self.read(changed.image()),
                                     len({version[0] for version in changed.records[at][0]}) == 1)
                changed = copy.deepcopy(plain)
                changed.records[at][1] = not stands
                self.assertTrue(self.read(changed.image()))
            self.same(book, plain)


if __name__ == "__main__":
    unittest.main()
