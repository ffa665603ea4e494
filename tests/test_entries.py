import copy
import random
import unittest

from kerbside.entries import KINDS, check_entry, entry_text, read_entry
from kerbside.errors import BadForm, NotAllowed

from helpers import entry_in, random_entry, text_of

PAPER = (5, 20, (1, 2), (1, 100), (0, 1), 3)
# For each text its entry: the ordinary ones, and those at the edges.
TEXTS = {
    "paper ab 5 20 1/2 1/100 0 3": ("paper", "ab", PAPER),
    "paper wxyz 0 0 0 0 0 0": ("paper", "wxyz", (0, 0, (0, 1), (0, 1), (0, 1), 0)),
    "paper a 999 999 7 999/1000 5/3 999": ("paper", "a", (999, 999, (7, 1), (999, 1000), (5, 3), 999)),
    "recall ab 5 20 1/2 1/100 0 3 12": ("recall", "ab", PAPER, 12),
    "recall ab 5 20 1/2 1/100 0 3 0": ("recall", "ab", PAPER, 0),
    "recall zzzz 5 20 1/2 1/100 0 3 999": ("recall", "zzzz", PAPER, 999),
    "weighing ab 12 0,3 7/2": ("weighing", "ab", 12, (0, 3), (7, 2)),
    "weighing q 0 0 0": ("weighing", "q", 0, (0,), (0, 1)),
    "weighing abcd 999 92,93,94,95,96,97,98,99 100": ("weighing", "abcd", 999, tuple(range(92, 100)), (100, 1)),
    "known 0,3 9": ("known", (0, 3), (9, 1)),
    "known 99 0": ("known", (99,), (0, 1)),
    "known 0,1,2,3,4,5,6,7 10/3": ("known", tuple(range(8)), (10, 3)),
    "find 4 yes": ("find", 4, True),
    "find 0 no": ("find", 0, False),
    "find 99 yes": ("find", 99, True),
}
# Their texts have 60 and 61 characters.
FITTING = ((10 ** 59, 1), (10 ** 60 - 1, 1), (10 ** 28, 10 ** 29 + 1), (1, 10 ** 57), (10 ** 56 + 1, 10))
TOO_LONG = ((10 ** 60, 1), (10 ** 29, 10 ** 29 + 1), (1, 10 ** 58), (10 ** 57 + 1, 10), (10 ** 5000, 1))
NO_RATIOS = ((2, 4), (0, 2), (1, 0), (0, 0), (1, -2), (-1, -2), (6, 3))
BELOW_ZERO = ((-1, 1), (-1, 10 ** 40), (-7, 2))
NO_SCALES = ("", "abcde", "A", "aB", "a1", "1", "a b", " a", "a ", "a-", "_")
NO_DAYS = (-1, 1000, 10 ** 20)
NO_LOTS = ((), (0, 0), (3, 1), (1, 2, 2), (1, 3, 2), (-1,), (-1, 4), (100,), (5, 100), tuple(range(9)),
           tuple(range(12)))


def put(parts, at, part):
    return parts[:at] + (part,) + parts[at + 1:]


class CheckTest(unittest.TestCase):
    def refuse(self, entry):
        with self.assertRaises(NotAllowed):
            check_entry(entry)

    def each(self, *kinds):
        return [entry for entry in TEXTS.values() if entry[0] in kinds]

    def test_kinds(self):
        self.assertEqual(KINDS, ("find", "known", "paper", "recall", "weighing"))
        self.assertEqual({entry[0] for entry in TEXTS.values()}, set(KINDS))

    def test_entries_pass(self):
        source = random.Random(71)
        for entry in list(TEXTS.values()) + [random_entry(source) for _ in range(300)]:
            self.assertIsNone(check_entry(entry))

    def test_another_kind(self):
        for entry in TEXTS.values():
            for word in ("", "sum", "Find", "finds", "papers", "know", "weigh", "recalls", " find", "find "):
                self.refuse((word,) + entry[1:])
            for kind in KINDS:
                if kind != entry[0]:
                    self.refuse((kind,) + entry[1:])

    def test_other_lengths(self):
        for entry in TEXTS.values():
            for many in range(1, len(entry)):
                self.refuse(entry[:many])
            for more in (0, 7, True, "ab", (0, 3), (1, 2), PAPER, entry[-1]):
                self.refuse(entry + (more,))
            self.refuse(entry + entry[1:])
        for entry in self.each("paper", "recall"):
            for many in range(6):
                self.refuse(put(entry, 2, entry[2][:many]))
            for more in (0, (0, 1)):
                self.refuse(put(entry, 2, entry[2] + (more,)))
        for word in KINDS + ("sum", ""):
            self.refuse((word,))

    def test_scales(self):
        for entry in self.each("paper", "recall", "weighing"):
            for text in NO_SCALES:
                self.refuse(put(entry, 1, text))

    def test_days(self):
        for day in NO_DAYS:
            for entry in self.each("recall"):
                self.refuse(put(entry, 3, day))
            for entry in self.each("weighing"):
                self.refuse(put(entry, 2, day))
            for entry in self.each("paper", "recall"):
                for at in (0, 1, 5):
                    self.refuse(put(entry, 2, put(entry[2], at, day)))

    def test_days_of_papers_in_order(self):
        for kind in (("paper", "ab"), ("recall", "ab")):
            for first, last, checked in ((5, 4, 3), (5, 9, 6), (7, 6, 8), (999, 0, 0), (0, 0, 1)):
                paper = (first, last, (1, 2), (1, 100), (0, 1), checked)
                self.refuse((kind + (paper, 7))[:4 if kind[0] == "recall" else 3])

    def test_ratios(self):
        for pair in NO_RATIOS + BELOW_ZERO + TOO_LONG:
            for entry in self.each("weighing", "known"):
                self.refuse(entry[:-1] + (pair,))
            for entry in self.each("paper", "recall"):
                for at in (2, 3, 4):
                    self.refuse(put(entry, 2, put(entry[2], at, pair)))

    def test_ratios_whose_texts_just_fit(self):
        for pair in FITTING:
            for entry in self.each("weighing", "known"):
                self.assertIsNone(check_entry(entry[:-1] + (pair,)))
            for entry in self.each("paper", "recall"):
                for at in (2, 3, 4):
                    changed = put(entry, 2, put(entry[2], at, pair))
                    if at == 3 and pair[0] >= pair[1]:
                        self.refuse(changed)
                    else:
                        self.assertIsNone(check_entry(changed))

    def test_shares(self):
        for entry in self.each("paper", "recall"):
            for pair in ((1, 1), (2, 1), (3, 2), (10 ** 20 + 1, 10 ** 20)):
                self.refuse(put(entry, 2, put(entry[2], 3, pair)))
            self.assertIsNone(check_entry(put(entry, 2, put(entry[2], 3, (10 ** 20 - 1, 10 ** 20)))))

    def test_lots(self):
        for lots in NO_LOTS:
            self.refuse(("weighing", "ab", 12, lots, (7, 2)))
            self.refuse(("known", lots, (9, 1)))
        for lot in (-1, -100, 100, 1000):
            for has in (True, False):
                self.refuse(("find", lot, has))
        for lot in range(100):
            self.assertIsNone(check_entry(("find", lot, False)))


class TextTest(unittest.TestCase):
    def setUp(self):
        self.source = random.Random(72)
        self.entries = list(TEXTS.values()) + [random_entry(self.source) for _ in range(400)]

    def read(self, text):
        """Compares what is read of a text with what it tells by the definition."""
        wanted = entry_in(text)
        if wanted is None:
            with self.assertRaises(BadForm, msg=repr(text)):
                read_entry(text)
            return 0
        found = read_entry(text)
        self.assertEqual((found, type(found)), (wanted, tuple), text)
        self.assertIsNone(check_entry(found))
        self.assertEqual(entry_text(found), text)
        return 1

    def test_examples(self):
        self.assertEqual(entry_text(("weighing", "ab", 12, (0, 3), (7, 2))), "weighing ab 12 0,3 7/2")
        self.assertEqual(read_entry("find 4 yes"), ("find", 4, True))
        with self.assertRaises(BadForm):
            read_entry("find 04 yes")

    def test_texts(self):
        for text, entry in TEXTS.items():
            self.assertEqual(entry_text(entry), text)
            self.assertEqual(read_entry(text), entry)
            self.assertEqual(self.read(text), 1)

    def test_many_entries(self):
        for entry in self.entries:
            self.assertEqual(entry_text(entry), text_of(entry))
            self.assertEqual(read_entry(text_of(entry)), entry)
        for lot in range(100):
            for has in (True, False):
                text = entry_text(("find", lot, has))
                self.assertEqual(text, f"find {lot} {'yes' if has else 'no'}")
                self.assertIs(read_entry(text)[2], has)

    def test_different_entries_have_different_texts(self):
        texts = {}
        for entry in self.entries:
            self.assertEqual(texts.setdefault(entry_text(entry), entry), entry)
        self.assertEqual(len(texts), len(set(self.entries)))

    def test_great_ratios(self):
        for pair in FITTING:
            entry = ("known", (1, 2), pair)
            self.assertEqual(read_entry(entry_text(entry)), entry)
            self.assertEqual(entry_text(entry), text_of(entry))
        for pair in TOO_LONG[:4]:
            self.assertEqual(self.read(text_of(("known", (1, 2), pair))), 0)
            self.assertEqual(self.read(text_of(("weighing", "ab", 3, (1, 2), pair))), 0)
            self.assertEqual(self.read(text_of(("paper", "ab", put(PAPER, 4, pair)))), 0)

    def test_changed_words(self):
        for text in TEXTS:
            words = text.split(" ")
            for at, word in enumerate(words):
                self.read(" ".join(words[:at] + words[at + 1:]))
                self.read(" ".join(words[:at] + words[at:at + 2][::-1] + words[at + 2:]))
                for other in ("", "x", "0", "1", "7", "99", "100", "1000", "-1", "+1", "1/2", "2/4", "-1/2", "3/1",
                              "1/0", "0/1", "1/", "/2", "yes", "no", "Yes", "true", "ab", "abcde", "AB", "0,1", "1,0",
                              "1,1", ",", "0,", ",0", "0,,1", "0,99", "0,100", "1.5", "1e3", "0x1", "1_0", "None",
                              "9" * 60, "9" * 61, "0" + word, word + "0", word + word, word + ",", *KINDS):
                    self.read(" ".join(words[:at] + [other] + words[at + 1:]))
                    self.read(" ".join(words[:at] + [other] + words[at:]))
            self.assertEqual(self.read(text + " " + words[-1]), 0)
            self.assertEqual(self.read(" ".join(words[:-1])), 0)

    def test_changed_characters(self):
        read = 0
        for text in TEXTS:
            for at in range(len(text) + 1):
                self.read(text[:at] + text[at + 1:])
                for code in range(32, 127):
                    read += self.read(text[:at] + chr(code) + text[at + 1:])
                    read += self.read(text[:at] + chr(code) + text[at:])
                self.assertEqual(self.read(text[:at] + " " + text[at:]), 0)
                self.read(text[:at] + text[at:].upper())
        self.assertGreater(read, 500)

    def test_leading_zeros(self):
        for text in TEXTS:
            words = text.split(" ")
            for at, word in enumerate(words):
                if word[0].isdigit():
                    self.assertEqual(self.read(" ".join(words[:at] + ["0" + word] + words[at + 1:])), 0)
                    self.assertEqual(self.read(" ".join(words[:at] + [word.replace("/", "/0")] + words[at + 1:])),
                                     "/" not in word)
                    self.assertEqual(self.read(" ".join(words[:at] + [word.replace(",", ",0")] + words[at + 1:])),
                                     "," not in word)

    def test_no_texts(self):
        for text in ("", " ", "  ", *KINDS, *[kind + " " for kind in KINDS], "find 4 yes\n", "\nfind 4 yes",
                     "find\t4 yes", "find 4 yes;find 5 yes", "find \u0664 yes", "find \u00b2 yes", "known \u0661 9",
                     "known 1 \u0669", "weighing \u00e4b 1 1 1", "FIND 4 yes", "find 4 YES", "find 4 1", "find 4 True",
                     "find " + "1" * 5000 + " yes", "find " + "0" * 5000 + " yes", "known 1 " + "1" * 5000,
                     "known " + ",".join(map(str, range(9))) + " 4", "known " + "1," * 5000 + "1 4",
                     "recall ab 5 20 1/2 1/100 0 3", "paper ab 5 20 1/2 1/100 0 3 12", "paper 5 20 1/2 1/100 0 3"):
            self.assertEqual(self.read(text), 0)

    def test_arguments_stay(self):
        for entry in self.entries:
            kept = copy.deepcopy(entry)
            check_entry(entry)
            entry_text(entry)
            self.assertEqual(entry, kept)


if __name__ == "__main__":
    unittest.main()
