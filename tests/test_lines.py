import copy
import random
import re
import unittest
from fractions import Fraction

from kerbside.lines import read_command

from helpers import pair_of, random_ratio, words_of_ratio

# For each good line what is read of it.
LINES = {
    "": (),
    "yard": ("yard", ""),
    "yard ": ("yard", ""),
    "yard  ": ("yard", " "),
    "yard 2: +0 +1": ("yard", "2: +0 +1"),
    "yard  2:  +0 ": ("yard", " 2:  +0 "),
    "yard nothing of it": ("yard", "nothing of it"),
    "note": ("note", ""),
    "note ": ("note", ""),
    "note find 4 yes": ("note", "find 4 yes"),
    "note   find  4 yes ": ("note", "  find  4 yes "),
    "fix 3": ("fix", 3, ""),
    "fix 3 ": ("fix", 3, ""),
    "fix 0 find 4 yes": ("fix", 0, "find 4 yes"),
    "fix 999  find 4 ": ("fix", 999, " find 4 "),
    "strike 1": ("strike", 1),
    "strike 999": ("strike", 999),
    "again 0": ("again", 0),
    "book": ("book",),
    "weight 7": ("weight", 7),
    "from 1 12": ("from", 1, 12),
    "from 999 999": ("from", 999, 999),
    "ask <= 5 1*0": ("ask", "<=", (5, 1), [(0, None, (1, 1))]),
    "ask >= -7/2 -1/3*12/3": ("ask", ">=", (-7, 2), [(12, 3, (-1, 3))]),
    "ask = 0 1*0 1*0 0*999/999": ("ask", "=", (0, 1), [(0, None, (1, 1)), (0, None, (1, 1)), (999, 999, (0, 1))]),
    "ask = " + "9" * 60 + " " + "9" * 60 + "*1": ("ask", "=", (10 ** 60 - 1, 1), [(1, None, (10 ** 60 - 1, 1))]),
    "sure": ("sure",),
    "price 0 10 100 999": ("price", 0, 10, 100, 999),
    "bill": ("bill",),
    "balance 3": ("balance", 3),
    "balance 999": ("balance", 999),
    "can": ("can",),
    "must": ("must",),
    "cannot": ("cannot",),
    "few": ("few",),
    "search": ("search",),
}
NUMBER = re.compile("0|[1-9][0-9]{0,2}")
RATIO = re.compile("(-?)(0|[1-9][0-9]*)(?:/([1-9][0-9]*))?")
NUMBERS = {"strike": 1, "again": 1, "book": 0, "weight": 1, "from": 2, "sure": 0, "price": 4, "bill": 0, "balance": 1,
           "can": 0, "must": 0, "cannot": 0, "few": 0, "search": 0}


def signed_ratio(word):
    found = RATIO.fullmatch(word)
    if found is None or len(word) > 60:
        return None
    pair = pair_of(Fraction(int(found[1] + found[2]), int(found[3] or 1)))
    return pair if words_of_ratio(pair) == word else None


def plain_term(word):
    found = re.fullmatch(r"([^*]*)\*(0|[1-9][0-9]{0,2})(?:/(0|[1-9][0-9]{0,2}))?", word)
    if found is None or signed_ratio(found[1]) is None:
        return None
    return (int(found[2]), None if found[3] is None else int(found[3]), signed_ratio(found[1]))


def plain_command(line):
    """Returns what is read of a line by the definition [9.4]."""
    if line == "":
        return ()
    found = re.fullmatch("(yard|note)(?: (.*))?", line, re.DOTALL)
    if found:
        return (found[1], found[2] or "")
    found = re.fullmatch("fix (0|[1-9][0-9]{0,2})(?: (.*))?", line, re.DOTALL)
    if found:
        return ("fix", int(found[1]), found[2] or "")
    word, *rest = line.split(" ")
    if word == "ask" and len(rest) > 2 and rest[0] in ("<=", ">=", "="):
        bound, terms = signed_ratio(rest[1]), [plain_term(term) for term in rest[2:]]
        return None if bound is None or None in terms else ("ask", rest[0], bound, terms)
    if NUMBERS.get(word) != len(rest) or not all(NUMBER.fullmatch(number) for number in rest):
        return None
    return (word, *map(int, rest))


class LinesTest(unittest.TestCase):
    def setUp(self):
        self.source = random.Random(94)

    def read(self, line):
        """Compares what is read of a line with what is due. Tells whether it is a good line."""
        found = read_command(line)
        self.assertEqual(found, plain_command(line), repr(line))
        if found is not None:
            self.assertIs(type(found), tuple)
            if found[:1] == ("ask",):
                self.assertIs(type(found[3]), list)
        return found is not None

    def bad(self, line):
        self.assertIsNone(read_command(line), repr(line))
        self.assertIsNone(plain_command(line), repr(line))

    def test_good_lines(self):
        for line, command in LINES.items():
            self.assertEqual(read_command(line), command, repr(line))
            self.assertTrue(self.read(line))

    def test_many_questions(self):
        for _ in range(200):
            relation, bound = self.source.choice(("<=", ">=", "=")), random_ratio(self.source, 99, 40)
            terms = [(self.source.randint(0, 12), self.source.choice((None, 0, 3, 12)), random_ratio(self.source, 30))
                     for _ in range(self.source.randint(1, 6))]
            words = [f"{words_of_ratio(factor)}*{lot}{'' if household is None else f'/{household}'}"
                     for lot, household, factor in terms]
            line = f"ask {relation} {words_of_ratio(bound)} {' '.join(words)}"
            self.assertEqual(read_command(line), ("ask", relation, bound, terms))

    def test_spaces(self):
        for line in LINES:
            self.bad(" " + line)
            rest_is_text = line.split(" ")[0] in ("yard", "note")
            for at, sign in enumerate(line):
                self.read(line[:at] + line[at + 1:])
                if sign == " " and not rest_is_text and not (line[:3] == "fix" and line[:at].count(" ")):
                    self.bad(line[:at] + " " + line[at:])
            if line and not rest_is_text and line[:3] != "fix":
                self.bad(line + " ")
        for line in ("fix", "fix ", "fix  3", "fix  3 find 4 yes", " ", "  ", "fix 3\tfind 4 yes", "yard\t", "book\n",
                     "\nbook"):
            self.bad(line)

    def test_words_more_and_less(self):
        for line in LINES:
            words = line.split(" ")
            if words[0] in ("yard", "note", "fix", ""):
                continue
            for at in range(len(words) + 1):
                for more in ("0", "1", "7", "x", "book", "1*0", "="):
                    self.read(" ".join(words[:at] + [more] + words[at:]))
                self.read(" ".join(words[:at] + words[at + 1:]))
            if words[0] != "ask":
                self.bad(" ".join(words + ["0"]))
                if len(words) > 1:
                    self.bad(" ".join(words[:-1]))
                    self.bad(words[0])
        for line in ("ask", "ask <=", "ask <= 5", "ask 5 1*0", "ask <= 1*0", "ask 1*0", "ask <= 5 ", "ask <= 5 1*0 7"):
            self.bad(line)

    def test_first_words(self):
        for line in LINES:
            word, space, rest = line.partition(" ")
            for other in (word.upper(), word.capitalize(), word[:-1] + word[-1:].upper(), word + "s", word[:-1], "x",
                          "-", "0", word + ":"):
                if other not in (word, ""):
                    self.bad(other + space + rest)
        for line in ("Book", "BOOK", "boo", "books", "bookx", "yards 2:", "yard2:", "yard: 2:", "notes", "fixed 3",
                     "fix3", "strikes 3", "ok", "bad", "bring 0", "None"):
            self.bad(line)

    def test_numbers(self):
        for line in ("strike {}", "again {}", "weight {}", "from {} 1", "from 1 {}", "price {} 2 3 4", "price 1 {} 3 4",
                     "price 1 2 {} 4", "price 1 2 3 {}", "balance {}", "fix {}", "fix {} find 4 yes", "ask = 1 1*{}",
                     "ask = 1 1*{}/2", "ask = 1 1*2/{}", "ask = 1 1*2 1*{} 1*4"):
            for number in (0, 1, 9, 10, 99, 100, 999):
                self.assertTrue(self.read(line.format(number)))
            for number in ("1000", "9999", "00", "01", "007", "0999", "-1", "+1", "1.0", "1e2", "x", "1x", "0x1", "1_0",
                           "\u0661", "\u00b2", "1,2", "1000000", "9" * 5000, "0" * 5000, "--1", "#", "*"):
                self.bad(line.format(number))

    def test_ratios(self):
        for line in ("ask <= {} 1*0", "ask >= 1 {}*0", "ask = 1 1*0 {}*0/2 1*3"):
            for word in ("0", "1", "-1", "1/2", "-7/3", "9" * 60, "1/" + "9" * 58, "-" + "9" * 59):
                self.assertTrue(self.read(line.format(word)))
            for word in ("", "2/4", "3/1", "0/1", "1/0", "-0", "+1", "01", "1/02", "1/-2", "1.5", "1/", "/2", "-", "x",
                         "1//2", "1/2/3", "9" * 61, "1/" + "9" * 59, "-" + "9" * 60, "--1", "9" * 5000, "1*1", "*"):
                self.bad(line.format(word))

    def test_relations(self):
        for word in ("<=", ">=", "="):
            self.assertTrue(self.read(f"ask {word} 5 1*0"))
        for word in ("<", ">", "==", "=<", "=>", "<>", "!=", "<==", "<= ", "is", "0", "", "-"):
            self.bad(f"ask {word} 5 1*0")

    def test_terms(self):
        for term in ("1*0", "-1*0", "1/2*0", "1/2*0/1", "-1/2*0/1", "0*0", "7*12/3"):
            self.assertTrue(self.read(f"ask = 5 {term}"))
            self.bad(f"ask = 5 {term.replace('*', '')}")
            self.bad(f"ask = 5 {term.replace('*', '**')}")
            self.bad(f"ask = 5 {term.replace('*', ' ')}")
            self.bad(f"ask = 5 {term}*")
            self.bad(f"ask = 5 {term}/")
            self.bad(f"ask = 5 *{term}")
        for term in ("", "1", "0", "*", "*0", "1*", "1*/1", "1*0/", "1*0/1/2", "1*0*1", "1*0/1*2", "1/2*", "/", "*0/1",
                     "1x0", "1*x", "1*0/x", "1*-1", "1*0/-1", "1* 0"):
            self.bad(f"ask = 5 {term}")
            self.bad(f"ask = 5 1*0 {term}")
            self.bad(f"ask = 5 {term} 1*0")

    def test_changed_characters(self):
        for line in LINES:
            if len(line) > 100:
                continue
            for at in range(len(line) + 1):
                for code in (*range(32, 127), 10):
                    self.read(line[:at] + chr(code) + line[at:])
                    self.read(line[:at] + chr(code) + line[at + 1:])

    def test_lists_that_were_returned(self):
        for line, command in LINES.items():
            found = read_command(line)
            if found[:1] == ("ask",):
                found[3].clear()
            self.assertEqual(read_command(line), copy.deepcopy(command))


if __name__ == "__main__":
    unittest.main()
