import random
import unittest
from fractions import Fraction

from kerbside.errors import BadForm, Missing, NotAllowed
from kerbside.follow import span
from kerbside.papers import check_system, is_history
from kerbside.yards import (MAX_HOUSEHOLDS, MAX_LOTS, check_yard, lots_of, present, reaches, read_yard, unknown,
                            width_of, yard_conditions, yard_text)

from helpers import dot, fractions, made_history, random_yard, row_of, sources_of

SMALL = (2, (("bring", 0), ("bring", 1), ("pour", (0, 1)), ("part", 2, 2)))
OUTSIDE = (-1, -2, 10 ** 20)


class YardTest(unittest.TestCase):
    def setUp(self):
        self.source = random.Random(71)

    def yards(self, many, deeds=8):
        for turn in range(many):
            yield random_yard(self.source, turn * 4 // many + 1, deeds)

    def brought(self, households, many):
        return (households, tuple(("bring", lot % households) for lot in range(many)))


class CheckTest(YardTest):
    def refuse(self, yard):
        with self.assertRaises(NotAllowed, msg=str(yard)):
            check_yard(yard)

    def test_limits(self):
        self.assertEqual((MAX_HOUSEHOLDS, MAX_LOTS), (4, 8))

    def test_yards_pass(self):
        for yard in self.yards(300):
            self.assertIsNone(check_yard(yard), yard)
        for yard in ((1, ()), (4, ()), SMALL, self.brought(1, 8), self.brought(2, 8), self.brought(3, 8),
                     self.brought(4, 6), (1, (("bring", 0), ("part", 0, 3), ("part", 3, 3), ("pour", (6, 1)))),
                     (1, (("bring", 0), ("part", 0, 2), ("pour", (2, 1)), ("part", 3, 2), ("pour", (4, 5)),
                          ("bring", 0))),
                     (1, self.brought(1, 7)[1] + (("pour", (6, 5, 4, 3, 2, 1, 0)),))):
            self.assertIsNone(check_yard(yard), yard)

    def test_households(self):
        for households in (0, 5, 6) + OUTSIDE:
            self.refuse((households, ()))
        self.refuse((0, (("bring", 0),)))
        self.refuse((5, (("bring", 4),)))
        for households in range(1, 5):
            for household in range(households):
                self.assertIsNone(check_yard((households, (("bring", household),))))
            for household in (households, households + 1) + OUTSIDE:
                self.refuse((households, (("bring", household),)))

    def test_lots_that_are_not_there(self):
        start = self.brought(1, 3)[1]
        for lot in (3, 4) + OUTSIDE:
            for deed in (("pour", (0, lot)), ("pour", (lot, 0)), ("pour", (0, 1, lot)), ("part", lot, 2),
                         ("part", lot, 3)):
                self.refuse((1, start + (deed,)))
        self.refuse((1, (("pour", (0, 1)),)))
        self.refuse((1, (("part", 0, 2),)))
        self.refuse((1, (("part", 0, 2), ("bring", 0))))
        self.refuse((1, (("bring", 0), ("pour", (0, 1)), ("bring", 0))))

    def test_lots_that_are_used_already(self):
        poured = self.brought(1, 4)[1] + (("pour", (1, 2)),)
        parted = self.brought(1, 4)[1] + (("part", 1, 2),)
        for lot in (0, 3, 4):
            for deeds in (poured, parted):
                self.assertIsNone(check_yard((1, deeds + (("part", lot, 2),))))
        for deeds, gone in ((poured, 1), (poured, 2), (parted, 1)):
            for deed in (("part", gone, 2), ("pour", (0, gone)), ("pour", (gone, 4)), ("pour", (0, 3, gone))):
                self.refuse((1, deeds + (deed,)))

    def test_pours(self):
        start = self.brought(1, 3)[1]
        for lots in ((), (0,), (1,), (0, 0), (0, 1, 0), (2, 2, 2), (0, 1, 2, 2)):
            self.refuse((1, start + (("pour", lots),)))
        for lots in ((0, 1), (1, 0), (2, 0), (0, 1, 2), (2, 0, 1)):
            self.assertIsNone(check_yard((1, start + (("pour", lots),))))

    def test_partings(self):
        for many in (0, 1, 4, 5) + OUTSIDE:
            self.refuse((1, (("bring", 0), ("part", 0, many))))
        for many in (2, 3):
            self.assertIsNone(check_yard((1, (("bring", 0), ("part", 0, many)))))

    def test_words_and_lengths(self):
        start = self.brought(2, 3)[1]
        for deed in ((), ("bring",), ("pour",), ("part",), ("part", 0), ("bring", 0, 0), ("bring", 0, 2),
                     ("pour", (0, 1), 2), ("pour", (0, 1), (2,)), ("part", 0, 2, 2), ("part", 0, 2, ()),
                     ("", 0), ("Bring", 0), ("bring ", 0), ("brin", 0), ("pours", (0, 1)), ("+", 0), ("D", 0, 2),
                     ("parting", 0, 2), ("", 0, 2), ("",), ("word",), ("word", 0, 2, 3)):
            for place in range(2):
                deeds = start + (("bring", 1),) * place + (deed,)
                self.refuse((2, deeds))
                self.refuse((2, deeds + (("bring", 1),)))

    def test_too_many_lots(self):
        for households in (1, 2, 3, 4):
            room = min(8, 24 // households)
            self.assertIsNone(check_yard(self.brought(households, room)))
            self.refuse(self.brought(households, room + 1))
            self.refuse(self.brought(households, 50))
            start = self.brought(households, room - 1)[1]
            self.assertIsNone(check_yard((households, start + (("pour", (0, 1)),))))
            self.refuse((households, start + (("part", 0, 2),)))
            self.refuse((households, start + (("pour", (0, 1)), ("bring", 0))))
            self.refuse((households, start[:-1] + (("part", 0, 3),)))
            self.assertIsNone(check_yard((households, start[:-1] + (("part", 0, 2),))))


class LotsTest(YardTest):
    def test_examples(self):
        self.assertEqual(lots_of(SMALL), [(0, ()), (1, ()), (None, (0, 1)), (None, (2,)), (None, (2,))])
        self.assertEqual(present(SMALL), [3, 4])

    def test_lots_and_present(self):
        for yard in self.yards(200):
            plain = sources_of(yard)
            self.assertEqual(lots_of(yard), [(household, tuple(sources)) for household, sources in plain])
            used = {lot for _, sources in plain for lot in sources}
            self.assertEqual(present(yard), [lot for lot in range(len(plain)) if lot not in used])
            self.assertEqual(width_of(yard), len(plain) * yard[0])

    def test_order_of_the_deed(self):
        yard = (1, self.brought(1, 4)[1] + (("pour", (3, 0, 2)), ("pour", (4, 1))))
        self.assertEqual(lots_of(yard)[4:], [(None, (3, 0, 2)), (None, (4, 1))])
        self.assertEqual(present(yard), [5])

    def test_unknowns(self):
        for yard in self.yards(40):
            many, households = len(sources_of(yard)), yard[0]
            indexes = [unknown(yard, lot, household) for lot in range(many) for household in range(households)]
            self.assertEqual(indexes, list(range(many * households)))
            for lot in (many, many + 1) + OUTSIDE:
                for household in (0, households - 1, households):
                    with self.assertRaises(Missing):
                        unknown(yard, lot, household)
            for household in (households, households + 1) + OUTSIDE:
                for lot in range(many):
                    with self.assertRaises(Missing):
                        unknown(yard, lot, household)

    def test_no_deeds(self):
        self.assertEqual((lots_of((3, ())), present((3, ())), width_of((3, ())), yard_conditions((3, ()))),
                         ([], [], 0, []))

    def test_lists_are_new(self):
        for call in (lots_of, present, yard_conditions, lambda yard: reaches(yard, 3)):
            wanted = list(call(SMALL))
            call(SMALL).clear()
            self.assertEqual(call(SMALL), wanted)


class ConditionsTest(YardTest):
    def plain_conditions(self, yard):
        households, deeds = yard
        width, made, found = len(sources_of(yard)) * households, 0, []
        for word, *rest in deeds:
            if word == "bring":
                sums = [(made, [], household) for household in range(households) if household != rest[0]]
                made += 1
            elif word == "pour":
                sums = [(made, rest[0], household) for household in range(households)]
                made += 1
            else:
                parts = range(made, made + rest[1])
                sums = [(rest[0], parts, household) for household in range(households)]
                made += rest[1]
            for whole, parts, household in sums:
                numbers = [0] * width
                numbers[whole * households + household] = 1
                for part in parts:
                    numbers[part * households + household] = -1
                found.append((row_of(*numbers), "=", (0, 1)))
        return found

    def test_a_known_list(self):
        yard = (2, (("bring", 1), ("part", 0, 2), ("pour", (2, 1))))
        self.assertEqual(yard_conditions(yard), [
            (row_of(1, 0, 0, 0, 0, 0, 0, 0), "=", (0, 1)),
            (row_of(1, 0, -1, 0, -1, 0, 0, 0), "=", (0, 1)), (row_of(0, 1, 0, -1, 0, -1, 0, 0), "=", (0, 1)),
            (row_of(0, 0, -1, 0, -1, 0, 1, 0), "=", (0, 1)), (row_of(0, 0, 0, -1, 0, -1, 0, 1), "=", (0, 1))])
        self.assertEqual(yard_conditions((1, (("bring", 0), ("bring", 0)))), [])
        self.assertEqual(yard_conditions((3, (("bring", 1),))),
                         [(row_of(1, 0, 0), "=", (0, 1)), (row_of(0, 0, 1), "=", (0, 1))])

    def test_the_list_of_the_document(self):
        for yard in self.yards(300):
            found = yard_conditions(yard)
            self.assertEqual(found, self.plain_conditions(yard))
            if width_of(yard):
                check_system((width_of(yard), tuple(found)))

    def test_histories_of_deeds_that_were_done(self):
        for yard in self.yards(200):
            if not width_of(yard):
                continue
            history = made_history(self.source, yard)
            system = (width_of(yard), tuple(yard_conditions(yard)))
            self.assertTrue(is_history(system, row_of(*history)), (yard, history))
            for _ in range(8):
                changed = list(history)
                changed[self.source.randrange(len(changed))] += self.source.choice((-1, Fraction(1, 3), 2))
                right = min(changed) >= 0 and self.sums_hold(yard, changed)
                self.assertIs(is_history(system, row_of(*changed)), right)

    def sums_hold(self, yard, history):
        """Tells whether contents are such that the deeds can have been done."""
        households, deeds = yard
        contents = [history[at:at + households] for at in range(0, len(history), households)]
        made = 0
        for word, *rest in deeds:
            new = contents[made:made + (rest[1] if word == "part" else 1)]
            made += len(new)
            for household in range(households):
                total = sum(content[household] for content in new)
                if word == "bring" and household != rest[0] and total != 0:
                    return False
                if word == "pour" and total != sum(contents[lot][household] for lot in rest[0]):
                    return False
                if word == "part" and total != contents[rest[0]][household]:
                    return False
        return True

    def test_a_content_that_no_deed_limits(self):
        # How the contents of a lot are spread over its parts may be any, for each household.
        system = (width_of(SMALL), tuple(yard_conditions(SMALL)))
        for share in (0, 1, 3):
            self.assertTrue(is_history(system, row_of(3, 0, 0, 3, 3, 3, share, 3 - share, 3 - share, share)))
        self.assertFalse(is_history(system, row_of(3, 0, 0, 3, 3, 3, 4, 0, -1, 3)))


class ReachTest(YardTest):
    def plain_reach(self, yard, lot):
        household, sources = sources_of(yard)[lot]
        return ({household} - {None}).union(*[self.plain_reach(yard, source) for source in sources])

    def test_against_a_plain_walk(self):
        for yard in self.yards(200):
            for lot in range(len(sources_of(yard))):
                self.assertEqual(reaches(yard, lot), sorted(self.plain_reach(yard, lot)))

    def test_contents(self):
        for yard in self.yards(40, 6):
            system = (width_of(yard), tuple(yard_conditions(yard)))
            for lot in range(len(sources_of(yard))):
                for household in range(yard[0]):
                    numbers = [0] * system[0]
                    numbers[lot * yard[0] + household] = 1
                    wanted = None if household in reaches(yard, lot) else (0, 1)
                    self.assertEqual(span(system, (row_of(*numbers), (0, 1))), ((0, 1), wanted))

    def test_known_lists(self):
        yard = (3, (("bring", 2), ("bring", 0), ("part", 0, 2), ("pour", (3, 1)), ("bring", 1)))
        self.assertEqual([reaches(yard, lot) for lot in range(6)], [[2], [0], [2], [2], [0, 2], [1]])

    def test_missing(self):
        for yard in ((1, ()), SMALL):
            for lot in (len(sources_of(yard)), 8) + OUTSIDE:
                with self.assertRaises(Missing):
                    reaches(yard, lot)


class TextTest(YardTest):
    def test_examples(self):
        self.assertEqual(read_yard("2: +0 +1 P0,1 D2/2"), SMALL)
        self.assertEqual(yard_text(SMALL), "2: +0 +1 P0,1 D2/2")
        self.assertEqual(yard_text((4, ())), "4:")
        self.assertEqual(read_yard("4:"), (4, ()))
        self.assertEqual(read_yard("1: +0 +0 +0 P2,0,1 D3/3"),
                         (1, (("bring", 0),) * 3 + (("pour", (2, 0, 1)), ("part", 3, 3))))

    def test_each_text_comes_back(self):
        for yard in self.yards(300):
            text = yard_text(yard)
            self.assertEqual(text, " ".join([f"{yard[0]}:"] + [self.plain_deed(*deed) for deed in yard[1]]))
            self.assertEqual(read_yard(text), yard)

    def plain_deed(self, word, *rest):
        if word == "bring":
            return f"+{rest[0]}"
        return f"D{rest[0]}/{rest[1]}" if word == "part" else "P" + ",".join(map(str, rest[0]))

    def test_bad_texts(self):
        for text in ("", " ", ":", "2", "2 ", "2 +0", "+0", ": +0", " 2:", "2: ", "2:  +0", "2: +0 ", "2:+0", "2 : +0",
                     "2:: +0", "2; +0", "02: +0", "+2: +0", "-2:", "2.: +0", "a: +0", "\u00b2: +0", "\u0662: +0",
                     "2: 0", "2: -0", "2: +", "2: + 0", "2: +00", "2: +01", "2: +10", "2: ++0", "2: +0,1", "2: +a",
                     "2: +\u00b9", "2: +\u0661", "2: bring", "2: b0", "2: +0 p0,1", "2: +0 d0/2", "2: +0 +1 P",
                     "2: +0 +1 P0", "2: +0 +1 P0,", "2: +0 +1 P,0", "2: +0 +1 P,", "2: +0 +1 P0,1,", "2: +0 +1 P0,,1",
                     "2: +0 +1 P0 ,1", "2: +0 +1 P0, 1", "2: +0 +1 P 0,1", "2: +0 +1 P0;1", "2: +0 +1 P01",
                     "2: +0 +1 P00,1", "2: +0 +1 P0,01", "2: +0 +1 P+0,1", "2: +0 +1 0,1", "2: +0 +1 P0.1",
                     "2: +0 D", "2: +0 D0", "2: +0 D0/", "2: +0 D/2", "2: +0 D02", "2: +0 D0/02", "2: +0 D00/2",
                     "2: +0 D0,2", "2: +0 D0//2", "2: +0 D0/2/2", "2: +0 D0/ 2", "2: +0 D0:2", "2: +0 D0/2/",
                     "2: +0 D0\\2", "2: +0 0/2", "2: +0\n", "2: +0\t+1", "2:\n+0", "2: +0 \n", "2: +0  +1", "2: +0+1",
                     "9" * 5000 + ":", "2: +" + "9" * 5000, "2: +0 D0/" + "2" * 5000):
            with self.assertRaises(BadForm, msg=text):
                read_yard(text)

    def test_texts_of_what_is_not_a_yard(self):
        for text in ("0:", "5:", "9:", "1: +1", "2: +2", "4: +4", "2: P0,1", "2: D0/2", "2: +0 P0,1", "2: +0 P0,0",
                     "2: +0 +1 P0,0", "2: +0 +1 P0,1 D0/2", "2: +0 D1/2", "2: +0 D0/1", "2: +0 D0/0", "2: +0 D0/4",
                     "2: +0 D0/2 D0/2", "2: +0 +1 P0,1 P1,2", "1:" + " +0" * 9, "4:" + " +0" * 7, "1:" + " +0" * 500,
                     "1: +0 D0/3 D1/3 D2/2"):
            with self.assertRaises(BadForm, msg=text):
                read_yard(text)

    def test_one_sign_changed(self):
        texts = [yard_text(yard) for yard in self.yards(30)]
        for text in texts:
            for at in range(len(text) + 1):
                for sign in " 0129+PD/,:a":
                    for other in (text[:at] + sign + text[at:], text[:at] + sign + text[at + 1:],
                                  text[:at] + text[at + 1:]):
                        self.comes_back_or_is_bad(other)

    def comes_back_or_is_bad(self, text):
        try:
            yard = read_yard(text)
        except BadForm:
            return
        self.assertIsNone(check_yard(yard))
        self.assertEqual(" ".join([f"{yard[0]}:"] + [self.plain_deed(*deed) for deed in yard[1]]), text)


class HistoryTest(YardTest):
    def test_sums_of_contents(self):
        """The weight of all present lots is the weight of all that was brought."""
        for yard in self.yards(60, 7):
            history, households = made_history(self.source, yard), yard[0]
            brought = [lot for lot, (household, _) in enumerate(sources_of(yard)) if household is not None]
            factors = [0] * len(history)
            for lot in present(yard):
                for household in range(households):
                    factors[lot * households + household] += 1
            for lot in brought:
                for household in range(households):
                    factors[lot * households + household] -= 1
            self.assertEqual(dot(fractions(row_of(*factors)), history), 0)


if __name__ == "__main__":
    unittest.main()
