"""The book: records of entries that are corrected, withdrawn and restored, and never lost ([7.3] to [7.6])."""

from kerbside.entries import KINDS, check_entry, entry_text, read_entry
from kerbside.errors import BadForm, Full, Missing, NotAllowed

MAX_RECORDS = 30
MAX_VERSIONS = 6
STANDS = "+"
WITHDRAWN = "-"


class Book:
    """Records with the numbers 1, 2, 3 and so on."""

    def __init__(self):
        # The place of a record in both lists is its number, less 1.
        self._versions = []
        self._standing = []

    def _place(self, number):
        """Returns the place of the record with the number."""
        if not 1 <= number <= len(self._versions):
            raise Missing("the book has no record with this number")
        return number - 1

    def add(self, entry):
        """Makes a record of the entry and returns its number."""
        check_entry(entry)
        if len(self._versions) >= MAX_RECORDS:
            raise Full("a book has at most 30 records")
        self._versions.append([entry])
        self._standing.append(True)
        return len(self._versions)

    def correct(self, number, entry):
        """Adds a version to the record."""
        versions = self._versions[self._place(number)]
        check_entry(entry)
        if entry[0] != versions[0][0]:
            raise NotAllowed("all versions of a record are of one kind")
        if len(versions) >= MAX_VERSIONS:
            raise Full("a record has at most 6 versions")
        versions.append(entry)

    def withdraw(self, number):
        """Lets the record be withdrawn."""
        place = self._place(number)
        if not self._standing[place]:
            raise NotAllowed("the record is withdrawn already")
        self._standing[place] = False

    def restore(self, number):
        """Lets the record stand again."""
        place = self._place(number)
        if self._standing[place]:
            raise NotAllowed("the record stands already")
        self._standing[place] = True

    def size(self):
        """Returns the number of records."""
        return len(self._versions)

    def standing(self):
        """Returns the list of the numbers of the records that stand, ascending."""
        return [place + 1 for place, stands in enumerate(self._standing) if stands]

    def stands(self, number):
        """Tells whether the record stands."""
        return self._standing[self._place(number)]

    def versions(self, number):
        """Returns the list of the versions of the record, in order."""
        return list(self._versions[self._place(number)])

    def evidence(self):
        """Returns the list of the present entries that stand, each once, in ascending order of their texts."""
        entries = [versions[-1] for versions, stands in zip(self._versions, self._standing) if stands]
        by_text = {entry_text(entry): entry for entry in entries}
        return [by_text[text] for text in sorted(by_text)]

    def of_kind(self, kind):
        """Returns the list of the entries of the evidence that are of the kind, each without its first element."""
        if kind not in KINDS:
            raise NotAllowed("no entry is of this kind")
        return [entry[1:] for entry in self.evidence() if entry[0] == kind]

    def image(self):
        """Returns the image."""
        return ";".join([record_text(versions, stands) for versions, stands in zip(self._versions, self._standing)])


def record_text(versions, stands):
    """Returns the part of an image for a record."""
    return (STANDS if stands else WITHDRAWN) + ">".join([entry_text(entry) for entry in versions])


def load_book(text):
    """Returns the book with this image."""
    book = Book()
    if text != "":
        for part in text.split(";"):
            load_record(book, part)
    return book


def load_record(book, part):
    """Adds the record of a part of an image to the book."""
    mark = part[:1]
    if mark not in (STANDS, WITHDRAWN):
        raise BadForm("a part of an image begins with a sign")
    entries = [read_entry(text) for text in part[1:].split(">")]
    try:
        number = book.add(entries[0])
        for entry in entries[1:]:
            book.correct(number, entry)
    except (Full, NotAllowed) as e:
        raise BadForm("the image tells of something that is not a book") from e
    if mark == WITHDRAWN:
        book.withdraw(number)
