import random
import unittest

from kerbside.accounts import Accounts
from kerbside.book import Book
from kerbside.desk import run_script
from kerbside.errors import BadForm, Endless, Full, Missing, Never, NotAllowed
from kerbside.evidence import conditions_of, finds_of
from kerbside.follow import span
from kerbside.questions import answer_of, form_of, system_of
from kerbside.sources import best_search, can_be, cannot_be, fewest, must_be
from kerbside.tables import certain_weights
from kerbside.yards import read_yard, yard_text

from helpers import entry_in, made_history, pair_of, random_entry, random_yard, sources_of, text_of, words_of_ratio
from test_lines import plain_command

WORDS = {NotAllowed: "refused", BadForm: "form", Missing: "missing", Never: "never", Endless: "endless", Full: "full"}
YARD = "yard 2: +0 +1 P0,1 D2/2"
SCALE = "note paper ab 0 999 1/2 1/100 0 0"


class PlainDesk:
    """A desk by the table of [9.4], of the functions of the other modules."""

    def __init__(self):
        self.yard, self.book, self.accounts = (1, ()), Book(), Accounts([0, 0, 0, 0])

    def answer(self, line):
        command = plain_command(line)
        if command is None:
            return "bad"
        if command == ():
            return ""
        try:
            return getattr(self, "do_" + command[0])(*command[1:])
        except tuple(WORDS) as error:
            return WORDS[type(error)]

    def do_yard(self, text):
        new, old = read_yard(text), self.yard
        if old[1] and (new[0] != old[0] or new[1][:len(old[1])] != old[1]):
            return "refused"
        self.yard = new
        return "ok"

    def entry(self, text):
        entry = entry_in(text)
        if entry is None:
            raise BadForm
        return entry

    def do_note(self, text):
        return str(self.book.add(self.entry(text)))

    def do_fix(self, number, text):
        entry = self.entry(text)
        self.book.correct(number, entry)
        return "ok"

    def do_strike(self, number):
        self.book.withdraw(number)
        return "ok"

    def do_again(self, number):
        self.book.restore(number)
        return "ok"

    def do_book(self):
        return self.book.image() if self.book.size() else "-"

    def span(self, terms):
        conditions = conditions_of(self.yard, self.book)
        system = system_of(self.yard, conditions)
        return " ".join("-" if end is None else words_of_ratio(end)
                        for end in span(system, form_of(self.yard, terms)))

    def do_weight(self, lot):
        return self.span([(lot, None, (1, 1))])

    def do_from(self, household, lot):
        return self.span([(lot, household, (1, 1))])

    def do_ask(self, relation, bound, terms):
        return answer_of(self.yard, conditions_of(self.yard, self.book), (terms, relation, bound))[0]

    def weights(self):
        return certain_weights(self.yard, conditions_of(self.yard, self.book))

    def do_sure(self):
        return " ".join(map(words_of_ratio, self.weights()))

    def do_price(self, *prices):
        for household, price in enumerate(prices):
            self.accounts.set_price(household, price)
        return "ok"

    def do_bill(self):
        notes = self.accounts.settle(self.weights())
        return " ".join(f"{household}{'+' if kind == 'charge' else '-'}{pence}"
                        for _, household, kind, pence in notes) or "-"

    def do_balance(self, household):
        return str(self.accounts.balance(household))

    def listed(self, function):
        return " ".join(map(str, function(self.yard, finds_of(self.yard, self.book)))) or "-"

    def do_can(self):
        return self.listed(can_be)

    def do_must(self):
        return self.listed(must_be)

    def do_cannot(self):
        return self.listed(cannot_be)

    def do_few(self):
        found = fewest(self.yard, finds_of(self.yard, self.book))
        return " ".join(",".join(map(str, households)) or "." for households in found) or "-"

    def do_search(self):
        return "{} {}".format(*best_search(self.yard, finds_of(self.yard, self.book)))


def plain_answers(script):
    desk = PlainDesk()
    return [desk.answer(line) for line in script.split("\n")]


class Scripts(unittest.TestCase):
    def run_lines(self, *lines):
        """Runs the lines, and compares the answers with those of the plain desk."""
        script = "\n".join(lines)
        answers = run_script(script)
        self.assertEqual(answers, plain_answers(script), script)
        return answers

    def last(self, *lines):
        return self.run_lines(*lines)[-1]

    def told(self, *pairs):
        """Runs the lines of pairs, each of which has an answer that is known."""
        self.assertEqual(self.run_lines(*[line for line, _ in pairs]), [answer for _, answer in pairs])


class TableTest(Scripts):
    def test_yard(self):
        self.told(("yard 4:", "ok"), ("yard 2:", "ok"), ("yard 3: +2", "ok"), ("yard 3: +2", "ok"),
                  ("yard 3: +2 D0/2", "ok"), ("yard 4: +2 D0/2", "refused"), ("yard 2: +1 D0/2", "refused"),
                  ("yard 3: +2", "refused"), ("yard 3:", "refused"), ("yard 3: +1 D0/2 +0", "refused"),
                  ("yard 3: +2 D0/3", "refused"), ("yard 3: +2 +0 D0/2", "refused"), ("yard 4: +2", "refused"),
                  ("yard 3: +2 D0/2 +0 P1,3", "ok"), ("yard 3: +2 D0/2 +0 P3,1", "refused"))
        self.told(("yard 3: +1", "ok"), ("yard 2: +1", "refused"), ("yard 2: +1 +0", "refused"),
                  ("yard 4: +1 +0", "refused"), ("yard 3: +1 +0", "ok"))

    def test_yards_that_are_none(self):
        self.told(("yard", "form"), ("yard ", "form"), ("yard 5:", "form"), ("yard 2", "form"), ("yard  2:", "form"),
                  ("yard 2: ", "form"), ("yard 2: +2", "form"), ("yard 2: +0  +1", "form"), ("yard 02:", "form"),
                  ("yard 2: +0", "ok"), ("yard 3: +3", "form"), ("yard 2: D0/2 ", "form"), ("weight 0", "0 -"),
                  ("weight 1", "missing"))

    def test_the_desk_at_first(self):
        self.told(("book", "-"), ("weight 0", "missing"), ("from 0 0", "missing"), ("ask <= 1 1*0", "missing"),
                  ("sure", "missing"), ("bill", "missing"), ("can", "-"), ("must", "-"), ("cannot", "0"), ("few", "."),
                  ("search", "missing"), ("balance 0", "0"), ("balance 3", "0"), ("balance 4", "refused"),
                  ("strike 1", "missing"), ("again 1", "missing"), ("fix 1 find 0 yes", "missing"),
                  ("price 1 2 3 4", "ok"), ("yard 1:", "ok"), ("yard 4: +3", "ok"))
        for households in range(1, 5):
            self.assertEqual(self.last(f"yard {households}:", "cannot"), " ".join(map(str, range(households))))

    def test_records(self):
        self.told(("note find 4 yes", "1"), ("note known 0,3 9", "2"), ("note find 04 yes", "form"), ("note", "form"),
                  ("note ", "form"), ("note  find 4 yes", "form"), ("note find 4 yes ", "form"),
                  ("note known 0 10", "3"), ("fix 1 find 4 no", "ok"), ("fix 1 known 0,3 9", "refused"),
                  ("fix 4 find 4 no", "missing"), ("fix 0 find 4 no", "missing"), ("fix 4 find 04 no", "form"),
                  ("fix 1", "form"), ("fix 9 ", "form"), ("fix 2  known 0,3 9", "form"), ("strike 2", "ok"),
                  ("strike 2", "refused"), ("strike 4", "missing"), ("strike 0", "missing"), ("again 1", "refused"),
                  ("again 4", "missing"), ("book", "+find 4 yes>find 4 no;-known 0,3 9;+known 0 10"),
                  ("again 2", "ok"), ("again 2", "refused"), ("fix 2 known 0 1/2", "ok"),
                  ("book", "+find 4 yes>find 4 no;+known 0,3 9>known 0 1/2;+known 0 10"))

    def test_full_books(self):
        answers = self.run_lines(*["note find 1 yes"] * 31, "book", "fix 30 find 1 no", "strike 1", "note find 2 yes",
                                 "note find 2", "book")
        self.assertEqual(answers[:31], [str(number) for number in range(1, 31)] + ["full"])
        self.assertEqual(answers[32:36], ["ok", "ok", "full", "form"])
        self.assertEqual(answers[36].count(";"), 29)
        answers = self.run_lines("note find 1 yes", *["fix 1 find 1 no"] * 6, "fix 1 known 1 1", "fix 2 find 1 no",
                                 "book")
        self.assertEqual(answers[1:9], ["ok"] * 5 + ["full", "refused", "missing"])

    def test_spans(self):
        self.told((YARD, "ok"), ("weight 2", "0 -"), (SCALE, "1"), ("note weighing ab 12 0 7/2", "2"),
                  ("note known 2 10", "3"), ("weight 0", "300/101 400/99"), ("weight 1", "590/99 710/101"),
                  ("weight 2", "10 10"), ("weight 3", "0 10"), ("from 0 2", "300/101 400/99"), ("from 1 0", "0 0"),
                  ("from 1 4", "0 710/101"), ("weight 5", "missing"), ("from 2 0", "missing"),
                  ("from 0 5", "missing"), ("from 999 999", "missing"), ("strike 3", "ok"), ("weight 1", "0 -"),
                  ("weight 2", "300/101 -"), ("note known 2 1", "4"), ("weight 0", "never"), ("from 0 0", "never"),
                  ("weight 9", "missing"), ("strike 4", "ok"), ("from 1 1", "0 -"))

    def test_questions(self):
        self.told((YARD, "ok"), ("note known 2 10", "1"), ("note known 0 4", "2"), ("ask >= 6 1*1", "certain"),
                  ("ask = 6 1*1/1", "certain"), ("ask <= 5 1*1", "impossible"), ("ask = 4 1*3", "open"),
                  ("ask <= 10 1*3 1*4", "certain"), ("ask = 2 1/3*1/1", "certain"), ("ask = 0 1*1/0", "certain"),
                  ("ask = 2 -1*0 1*1", "certain"), ("ask < 2 1*0", "bad"), ("ask <= 2", "bad"),
                  ("ask <= 2 1*0 ", "bad"), ("ask <= 2 1*5", "missing"), ("ask <= 2 1*0/2", "missing"),
                  ("ask <= 2/4 1*0", "bad"), ("note known 1 7", "3"), ("ask <= 2 1*0", "never"),
                  ("ask <= 2 1*5", "missing"), ("strike 1", "ok"), ("ask = 11 1*2", "certain"))

    def test_certain_weights_and_bills(self):
        self.told(("yard 3: +0 +2 +0 P0,1,2", "ok"), ("sure", "0 0 0 0"), ("bill", "-"), ("price 7 5 999 1", "ok"),
                  ("bill", "-"), ("note known 0 5/2", "1"), ("sure", "5/2 0 0 0"), ("bill", "0+17"), ("bill", "-"),
                  ("note known 3 10", "2"), ("bill", "-"), ("note known 2 1", "3"), ("sure", "7/2 0 13/2 0"),
                  ("bill", "0+7 2+6493"), ("balance 0", "24"), ("balance 1", "0"), ("balance 2", "6493"),
                  ("price 1 1 1 1", "ok"), ("balance 0", "24"), ("bill", "0-21 2-6487"), ("strike 2", "ok"),
                  ("bill", "2-6"), ("fix 1 known 0 3", "ok"), ("bill", "0+1"), ("balance 0", "4"),
                  ("strike 1", "ok"), ("strike 3", "ok"), ("bill", "0-4"), ("sure", "0 0 0 0"), ("balance 3", "0"),
                  ("balance 10", "refused"), ("price 1 1 1", "bad"), ("price 1 1 1 1000", "bad"),
                  ("price 0 0 0 01", "bad"), ("again 1", "ok"), ("bill", "0+3"), ("price 0 0 0 0", "ok"),
                  ("bill", "0-3"))

    def test_sources(self):
        self.told((YARD, "ok"), ("can", "0 1"), ("must", "-"), ("cannot", "-"), ("few", "."), ("search", "3 4"),
                  ("note find 3 yes", "1"), ("few", "0 1"), ("can", "0 1"), ("must", "-"), ("search", "4 3"),
                  ("note find 0 no", "2"), ("can", "1"), ("must", "1"), ("cannot", "0"), ("few", "1"),
                  ("note find 1 no", "3"), ("few", "-"), ("can", "never"), ("must", "never"), ("cannot", "never"),
                  ("search", "never"), ("note find 0 yes", "4"), ("few", "never"), ("can", "never"), ("strike 2", "ok"),
                  ("strike 3", "ok"), ("few", "0"), ("note find 5 no", "5"), ("few", "missing"), ("can", "missing"),
                  ("search", "missing"), ("fix 5 find 4 no", "ok"), ("search", "missing"), ("few", "0"))
        self.told(("yard 4: +2 +0 +3 +1", "ok"), ("note find 0 yes", "1"), ("note find 3 yes", "2"), ("few", "1,2"),
                  ("must", "1 2"), ("can", "0 1 2 3"), ("note find 2 no", "3"), ("cannot", "3"), ("can", "0 1 2"),
                  ("search", "1 1"))

    def test_the_empty_line_and_bad_ones(self):
        self.told(("", ""), (" ", "bad"), ("book ", "bad"), ("Book", "bad"), ("", ""), ("weight", "bad"),
                  ("weight 1000", "bad"), ("strike 01", "bad"), ("nothing", "bad"), ("", ""))
        self.assertEqual(run_script(""), [""])
        self.assertEqual(run_script("\n"), ["", ""])
        self.assertEqual(run_script("book\n"), ["-", ""])
        self.assertEqual(run_script("\nbook"), ["", "-"])

    def test_errors_of_the_conditions(self):
        papers = [f"note paper ab 0 999 {number} 0 0 0" for number in range(13)]
        full = ["note weighing ab 7 0 5", "note weighing ab 7 1 5"]
        yard, lines = "yard 1: +0 +0 P0,1", ("weight 0", "from 0 0", "ask = 5 1*0", "sure", "bill")
        for line in lines:
            self.assertEqual(self.last(yard, *papers[:12], *full, line), "full")
            self.assertNotEqual(self.last(yard, *papers[:12], full[0], line), "full")
            self.assertEqual(self.last(yard, *papers, *full, line), "refused")
            self.assertEqual(self.last(yard, *papers, line), "refused")
            self.assertEqual(self.last(yard, *papers, "note known 3 1", line), "missing")
            self.assertEqual(self.last(yard, *papers, "note weighing q 0 0,3 1", line), "missing")
            self.assertEqual(self.last("yard 1:", *papers, line), "refused")
            self.assertEqual(self.last("yard 1:", *papers[:12], line), "missing")
            self.assertEqual(self.last(yard, "note known 0 1", "note known 0 2", line), "never")
            self.assertEqual(self.last(yard, "note known 0 1", "note known 1 2", "note known 2 4", line), "never")
        for line in ("weight 3", "from 1 0", "from 0 3", "ask = 5 1*3", "ask = 5 1*0/1"):
            self.assertEqual(self.last(yard, *papers[:12], *full, line), "full")
            self.assertEqual(self.last(yard, *papers, line), "refused")
            self.assertEqual(self.last(yard, "note known 0 1", "note known 0 2", line), "missing")

    def test_bills_without_room(self):
        most = "note known 0 1000000"
        self.told(("yard 2: +0 +1", "ok"), ("price 999 1 0 0", "ok"), (most, "1"), ("note known 1 1", "2"),
                  ("bill", "0+999000000 1+1"), ("fix 1 known 0 3000000", "ok"), ("fix 2 known 1 2", "ok"),
                  ("bill", "full"), ("balance 0", "999000000"), ("balance 1", "1"), ("fix 1 known 0 2000000", "ok"),
                  ("bill", "0+999000000 1+1"), ("price 0 0 0 0", "ok"), ("bill", "full"), ("balance 0", "1998000000"),
                  ("balance 1", "2"))

    def test_never_more_than_two_notes_for_each_line(self):
        lines = [YARD, "note known 0 1", "note known 1 1"]
        for turn in range(18):
            lines += [f"price {turn % 2 + 1} {turn % 2 + 1} 0 0", "bill"]
        self.assertEqual(self.run_lines(*lines)[4::2], ["0+1 1+1"] + ["0+1 1+1", "0-1 1-1"] * 8 + ["0+1 1+1"])


class LimitsTest(Scripts):
    def refuse(self, script):
        with self.assertRaises(NotAllowed):
            run_script(script)

    def test_40_lines(self):
        self.assertEqual(run_script("\n".join(["book"] * 40)), ["-"] * 40)
        self.assertEqual(run_script("\n" * 39), [""] * 40)
        self.refuse("\n".join(["book"] * 41))
        self.refuse("\n" * 40)
        self.refuse("book" + "\n" * 40)
        self.refuse("\n" * 400)

    def test_3000_characters(self):
        for start in ("", "book\n", "yard 2:\nnote find 1 yes\n"):
            for last in ("yard ", "note ", "", "fix 1 "):
                script = start + last + "x" * (3000 - len(start) - len(last))
                self.assertEqual(len(script), 3000)
                answers = run_script(script)
                self.assertEqual(answers, plain_answers(script))
                self.assertEqual(answers[-1], "form" if last else "bad")
                self.refuse(script + "x")
                self.refuse(script + "\n")
        self.refuse("x" * 3001)
        self.refuse("book\n" * 39 + "x" * 2806)
        self.assertEqual(len(run_script("book\n" * 39 + "x" * 2805)), 40)

    def test_long_lines(self):
        for line in ("yard 1:" + " +0" * 990, "note known " + "1," * 1490 + "1 1", "ask = 1" + " 1*0" * 740,
                     "strike " + "9" * 2990, "ask = " + "9" * 1400 + " " + "9" * 1400 + "*0", "yard " + "9" * 2990,
                     "yard 4: P" + ",".join("0" * 1400), "note find " + "0" * 2900 + " yes"):
            self.assertIn(self.last(line), ("form", "bad", "missing"))

    def test_two_scripts(self):
        script = "\n".join([YARD, SCALE, "note known 2 10", "price 1 2 3 4", "bill", "balance 1", "book", "sure"])
        first = run_script(script)
        self.assertEqual(run_script("book\nyard 3: +2\nbalance 1\nsure\nbill"), ["-", "ok", "0", "0 0 0 0", "-"])
        second = run_script(script)
        self.assertEqual((first, type(first)), (second, list))
        first.clear()
        self.assertEqual(run_script(script), second)


class RandomScriptsTest(Scripts):
    def setUp(self):
        self.source = random.Random(95)

    def drawn_lines(self):
        """Returns the lines of a script around a yard and contents that are true, or nearly so."""
        yard = random_yard(self.source, self.source.randint(1, 4), 4, 1)
        self.households, self.lots = yard[0], len(sources_of(yard))
        self.history = made_history(self.source, yard)
        many = self.source.randint(0, len(yard[1]))
        lines = ["yard " + yard_text((yard[0], yard[1][:many]))]
        while len(lines) < 40 and len("\n".join(lines)) < 2800:
            if self.source.random() < 0.15 and many < len(yard[1]):
                many += 1
                lines.append("yard " + yard_text((yard[0], yard[1][:many])))
            lines.append(self.drawn_line())
        return lines[:40]

    def drawn_line(self):
        lot, household = self.source.randint(0, self.lots), self.source.randint(0, self.households)
        number = self.source.randint(0, 9)
        spoilt = random_entry(self.source, None, self.lots + 1)
        term = f"{self.source.choice(('1', '-1', '1/2'))}*{lot}" + self.source.choice(("", f"/{household}"))
        bound = words_of_ratio(pair_of(self.source.choice(self.history)))
        return self.source.choice((
            "note " + text_of(self.true_entry()), "note " + text_of(self.true_entry()), "note " + text_of(spoilt),
            "note " + text_of(self.true_entry()), f"fix {number} " + text_of(self.source.choice((spoilt,
                                                                                                self.true_entry()))),
            f"strike {number}", f"again {number}", "book", f"weight {lot}", f"from {household} {lot}",
            f"ask {self.source.choice(('<=', '>=', '='))} {bound} {term}", "sure", "bill", "bill", "can", "must",
            f"price {number} 10 {number} 999", f"balance {household}", "cannot", "few", "search", "", "nothing",
            f"strike {number}", f"note {text_of(spoilt)[:-1]}"))

    def true_entry(self):
        lot = self.source.randrange(self.lots)
        weight = sum(self.history[lot * self.households:(lot + 1) * self.households])
        return self.source.choice((("known", (lot,), pair_of(weight)), ("weighing", "a", 12, (lot,), pair_of(weight)),
                                   ("paper", "a", (0, 99, (1, 2), (1, 10), (0, 1), 0)),
                                   ("recall", "a", (0, 99, (1, 2), (1, 10), (0, 1), 0), 12),
                                   ("find", lot, self.source.random() < 0.5)))

    def test_scripts(self):
        seen = {}
        for _ in range(120):
            for line, answer in zip(lines := self.drawn_lines(), self.run_lines(*lines)):
                seen.setdefault(line.split(" ")[0], set()).add(answer)
        for word in ("weight", "from", "ask", "sure", "bill", "can", "must", "few"):
            self.assertGreater(len(seen[word]), 4 if word != "ask" else 3, word)
        self.assertLessEqual({"certain", "impossible", "open", "never", "missing"}, seen["ask"])
        self.assertLessEqual({"1", "12", "form"}, seen["note"])
        self.assertLessEqual({"ok", "missing", "refused"}, seen["strike"])

    def test_errors_change_nothing(self):
        for _ in range(40):
            lines = self.drawn_lines()[:25]
            answers = run_script("\n".join(lines))
            good = [line for line, answer in zip(lines, answers)
                    if answer not in ("bad", "form", "missing", "refused", "never", "full")]
            tail = ["book", "sure", "few", "balance 0", "balance 1", "bill", "balance 0", "weight 0", "can"]
            self.assertEqual(run_script("\n".join(lines + tail))[-9:], run_script("\n".join(good + tail))[-9:])


if __name__ == "__main__":
    unittest.main()
