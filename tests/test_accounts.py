import math
import random
import re
import unittest
from fractions import Fraction

from kerbside.accounts import HOUSEHOLDS, MAX_NOTES, Accounts, load_accounts
from kerbside.errors import BadForm, Full, NotAllowed

from helpers import fraction, pair_of

NO_PRICES = (-1, -9, 1000, 1001, 10 ** 20, -10 ** 20)
NO_HOUSEHOLDS = (-1, -4, 4, 5, 100, -10 ** 20)
NOUGHT = (0, 1)
MOST = 999999999
PRICE = re.compile("0|[1-9][0-9]{0,2}")
NOTE = re.compile("([0-3]) (charge|refund) ([1-9][0-9]{0,8})")


class Plain:
    """Accounts by the definitions [8.4] to [8.6]."""

    def __init__(self, prices):
        self.prices, self.book = list(prices), []

    def balance(self, household):
        return sum(pence if kind == "charge" else -pence for _, payer, kind, pence in self.book if payer == household)

    def settle(self, weights):
        """Returns the new notes, None if there is no room for them."""
        new = []
        for household, (price, weight) in enumerate(zip(self.prices, weights, strict=True)):
            gap = math.floor(price * fraction(weight)) - self.balance(household)
            if gap != 0:
                new.append((len(self.book) + len(new), household, "charge" if gap > 0 else "refund", abs(gap)))
        if len(self.book) + len(new) > 200 or any(note[3] > MOST for note in new):
            return None
        self.book += new
        return new

    def image(self):
        return ";".join([" ".join(map(str, self.prices))] + [" ".join(map(str, note[1:])) for note in self.book])


def plain_of(text):
    """Returns the plain accounts of an image by [8.6] and the interface, None if the text is no image."""
    prices, *notes = text.split(";")
    prices = prices.split(" ")
    if len(prices) != 4 or not all(PRICE.fullmatch(price) for price in prices) or len(notes) > 200:
        return None
    plain = Plain([int(price) for price in prices])
    for note in notes:
        found = NOTE.fullmatch(note)
        if found is None:
            return None
        plain.book.append((len(plain.book), int(found[1]), found[2], int(found[3])))
        if plain.balance(int(found[1])) < 0:
            return None
    return plain


class AllAccounts(unittest.TestCase):
    def setUp(self):
        self.source = random.Random(84)

    def raises(self, error, call, *told):
        with self.assertRaises(error, msg=told):
            call(*told)

    def same(self, accounts, plain):
        self.assertEqual([accounts.price(household) for household in range(4)], plain.prices)
        self.assertEqual(accounts.notes(), plain.book)
        self.assertEqual([accounts.balance(household) for household in range(4)],
                         [plain.balance(household) for household in range(4)])
        self.assertEqual(accounts.image(), plain.image())

    def drawn_weights(self, size=60):
        return [NOUGHT if self.source.random() < 0.2 else
                pair_of(Fraction(self.source.randint(0, size), self.source.randint(1, 4))) for _ in range(4)]

    def step(self, accounts, plain):
        """Does the same thing with both, and compares what comes of it."""
        if self.source.random() < 0.3:
            household, price = self.source.randrange(4), self.source.choice((0, 1, 10, 999))
            self.assertIsNone(accounts.set_price(household, price))
            plain.prices[household] = price
            return 0
        weights = self.drawn_weights()
        self.settle(accounts, plain, weights)
        for household, weight in enumerate(weights):
            amount = math.floor(plain.prices[household] * fraction(weight))
            self.assertEqual(accounts.balance(household), amount)
        return 1

    def settle(self, accounts, plain, weights):
        """Settles both, and compares the notes, or the error. Tells whether there was room."""
        kept, wanted = list(weights), plain.settle(weights)
        if wanted is None:
            self.raises(Full, accounts.settle, weights)
        else:
            found = accounts.settle(weights)
            self.assertEqual((found, type(found)), (wanted, list))
        self.assertEqual(weights, kept)
        return wanted is not None

    def drawn(self, steps):
        prices = [self.source.randint(0, 20) for _ in range(4)]
        accounts, plain = Accounts(prices), Plain(prices)
        for _ in range(steps):
            self.step(accounts, plain)
        return accounts, plain


class SettlingTest(AllAccounts):
    def test_example(self):
        accounts = Accounts([10, 0, 5, 5])
        self.assertEqual(accounts.settle([(25, 2), (3, 1), (0, 1), (7, 3)]),
                         [(0, 0, "charge", 125), (1, 3, "charge", 11)])
        self.assertEqual(accounts.settle([(12, 1), (3, 1), (1, 1), (7, 3)]),
                         [(2, 0, "refund", 5), (3, 2, "charge", 5)])
        self.assertEqual([accounts.balance(0), accounts.image()],
                         [120, "10 0 5 5;0 charge 125;3 charge 11;0 refund 5;2 charge 5"])

    def test_constants_and_new_accounts(self):
        self.assertEqual((HOUSEHOLDS, MAX_NOTES), (4, 200))
        for prices in ([0, 0, 0, 0], [999, 999, 999, 999], [1, 20, 300, 0]):
            accounts = Accounts(prices)
            self.same(accounts, Plain(prices))
            self.assertEqual((accounts.notes(), accounts.image()), ([], " ".join(map(str, prices))))

    def test_rows_of_settlings(self):
        for _ in range(60):
            accounts, plain = self.drawn(0)
            for _ in range(25):
                self.step(accounts, plain)
                self.same(accounts, plain)
            kinds = [kind for _, _, kind, _ in plain.book]
            self.assertLess(5, kinds.count("refund"))
            self.assertEqual([number for number, _, _, _ in accounts.notes()], list(range(len(kinds))))

    def test_nothing_is_noted_where_the_balance_is_right(self):
        accounts = Accounts([10, 20, 30, 40])
        weights = [(1, 1), (3, 2), NOUGHT, (1, 7)]
        self.assertEqual(accounts.settle(weights), [(0, 0, "charge", 10), (1, 1, "charge", 30), (2, 3, "charge", 5)])
        self.assertEqual(accounts.settle(weights), [])
        self.assertEqual(accounts.settle([(11, 10), (3, 2), (1, 31), (1, 7)]), [(3, 0, "charge", 1)])
        self.assertEqual(accounts.settle([NOUGHT] * 4), [(4, 0, "refund", 11), (5, 1, "refund", 30),
                                                         (6, 3, "refund", 5)])
        self.assertEqual(accounts.settle([NOUGHT] * 4), [])
        self.assertEqual([accounts.balance(household) for household in range(4)], [0] * 4)

    def test_prices(self):
        accounts = Accounts([10, 0, 0, 0])
        accounts.settle([(7, 2)] * 4)
        for price, note in ((4, ("refund", 21)), (999, ("charge", 3482)), (0, ("refund", 3496))):
            self.assertIsNone(accounts.set_price(0, price))
            before = accounts.notes()
            self.assertEqual(accounts.price(0), price)
            self.assertEqual(accounts.settle([(7, 2)] * 4), [(len(before), 0) + note])
            self.assertEqual(accounts.notes()[:-1], before)
        accounts.set_price(3, 1)
        self.assertEqual([accounts.price(household) for household in range(4)], [0, 0, 0, 1])
        self.assertEqual(accounts.settle([(7, 2)] * 4), [(4, 3, "charge", 3)])

    def test_no_refunds_while_weights_do_not_become_less(self):
        for _ in range(40):
            accounts, _ = self.drawn(0)
            weights = [NOUGHT] * 4
            for _ in range(20):
                weights = [max(old, new, key=fraction) for old, new in zip(weights, self.drawn_weights())]
                accounts.settle(weights)
            self.assertEqual({kind for _, _, kind, _ in accounts.notes()} | {"charge"}, {"charge"})


class WrongCallsTest(AllAccounts):
    def test_prices(self):
        for price in NO_PRICES:
            for at in range(4):
                prices = [1, 2, 3, 4]
                prices[at] = price
                self.raises(NotAllowed, Accounts, prices)
        for many in (0, 1, 2, 3, 5, 6, 100):
            self.raises(NotAllowed, Accounts, [7] * many)
        accounts, plain = self.drawn(10)
        for household in range(4):
            for price in NO_PRICES:
                self.raises(NotAllowed, accounts.set_price, household, price)
        for household in NO_HOUSEHOLDS:
            for price in (0, 7, 999) + NO_PRICES:
                self.raises(NotAllowed, accounts.set_price, household, price)
            self.raises(NotAllowed, accounts.price, household)
            self.raises(NotAllowed, accounts.balance, household)
        self.same(accounts, plain)

    def test_weights(self):
        accounts, plain = self.drawn(10)
        for many in (0, 1, 2, 3, 5, 6, 100):
            self.raises(NotAllowed, accounts.settle, [(7, 2)] * many)
        for pair in ((-1, 1), (-1, 10 ** 40), (-7, 2)):
            for at in range(4):
                weights = [(10 ** 20, 1)] * 4
                weights[at] = pair
                self.raises(NotAllowed, accounts.settle, weights)
        self.same(accounts, plain)
        self.raises(NotAllowed, Accounts([0] * 4).settle, [(1, 1), (1, 1), (1, 1), (-1, 2)])

    def test_great_notes(self):
        for start in (0, 5, MOST):
            for household in range(4):
                accounts, plain = Accounts([1] * 4), Plain([1] * 4)
                self.assertTrue(self.settle(accounts, plain, [(start, 1)] * 4))
                weights = [(start + 3, 1)] * 4
                for more, fits in ((MOST + 1, False), (10 ** 40, False), (MOST, True)):
                    weights[household] = pair_of(Fraction(2 * (start + more) + 1, 2))
                    self.assertEqual(self.settle(accounts, plain, weights), fits)
                    self.same(accounts, plain)
        accounts, plain = Accounts([1] * 4), Plain([1] * 4)
        for many in (1, 2):
            self.settle(accounts, plain, [(many * MOST, 1)] * 4)
        self.assertFalse(self.settle(accounts, plain, [(MOST - 1, 1), (1, 1), NOUGHT, NOUGHT]))
        self.same(accounts, plain)
        self.assertTrue(self.settle(accounts, plain, [(MOST, 1)] * 4))
        self.assertEqual(accounts.notes()[8:], [(8 + at, at, "refund", MOST) for at in range(4)])

    def test_200_notes(self):
        for spare in range(5):
            accounts, plain = Accounts([1] * 4), Plain([1] * 4)
            for turn in range(200 - spare):
                self.assertTrue(self.settle(accounts, plain, [(turn + 1, 1)] + [NOUGHT] * 3))
            self.assertEqual(len(accounts.notes()), 200 - spare)
            for many in range(4, spare, -1):
                weights = [(7, 1)] * many + [(200 - spare, 1)] * (many == 0) + [NOUGHT] * (4 - many)
                self.assertFalse(self.settle(accounts, plain, weights))
                self.same(accounts, plain)
            weights = [(7, 1)] * spare + [NOUGHT] * (4 - spare) if spare else [(200, 1)] + [NOUGHT] * 3
            self.assertTrue(self.settle(accounts, plain, weights))
            self.assertEqual(len(accounts.notes()), 200)
            self.assertEqual(accounts.settle(weights), [])
            self.same(accounts, plain)
            self.same(load_accounts(accounts.image()), plain)

    def test_lists_that_were_passed_and_returned(self):
        prices, weights = [1, 2, 3, 4], [(5, 1)] * 4
        accounts, plain = Accounts(prices), Plain(prices)
        prices[0] = 9
        prices.clear()
        found = accounts.settle(weights)
        self.assertEqual(found, plain.settle(weights))
        weights.clear()
        found.clear()
        self.same(accounts, plain)
        found = accounts.notes()
        found.append((4, 0, "charge", 7))
        del found[0]
        self.same(accounts, plain)
        self.same(load_accounts(accounts.image()), plain)

    def test_two_accounts(self):
        prices = [1, 2, 3, 4]
        both = [(Accounts(prices), Plain(prices)) for _ in range(2)]
        for _ in range(40):
            self.step(*self.source.choice(both))
            for accounts, plain in both:
                self.same(accounts, plain)


class ImageTest(AllAccounts):
    def read(self, text):
        """Reads a text, and compares what comes of it with what is due. Tells whether it is an image."""
        plain = plain_of(text)
        if plain is None:
            self.raises(BadForm, load_accounts, text)
            return False
        accounts = load_accounts(text)
        self.assertIs(type(accounts), Accounts)
        self.assertEqual(accounts.image(), text)
        self.same(accounts, plain)
        return True

    def test_example(self):
        self.assertTrue(self.read("10 0 5 5;0 charge 120;0 refund 20"))
        self.assertEqual(load_accounts("10 0 5 5;0 charge 120;0 refund 20").balance(0), 100)

    def test_images_come_back(self):
        for turn in range(60):
            accounts, plain = self.drawn(turn // 2)
            self.assertTrue(self.read(accounts.image()))
            other = load_accounts(accounts.image())
            for _ in range(10):
                weights = self.drawn_weights()
                wanted = plain.settle(weights)
                self.assertEqual([accounts.settle(weights), other.settle(weights)], [wanted, wanted])
            self.same(accounts, plain)
            self.same(other, plain)

    def test_faults(self):
        good = "10 0 5 5"
        self.assertTrue(self.read(good))
        for text in ("", " ", ";", "10 0 5", "10 0 5 5 5", "10 0 5 5;", ";10 0 5 5", "10 0 5 1000", "10 0 5 -1",
                     "10 0 5 05", "10 0 5 00", "10 0 5 +5", "10 0 5 a", "10 0 5 1/2", "10 0  5", "10 0 5 ", "10 0 5  5",
                     "10,0,5,5", "10 0 5 5\n", "10\t0 5 5", "10 0 5 \u0665", "10 0 5 5.", "10 0 5 " + "9" * 5000,
                     "10 0 5 5;;0 charge 1", "0 charge 1"):
            self.assertFalse(self.read(text), text)
        for note in ("", " ", "0 charge", "charge 5", "0 5", "0 charge 5 5", "4 charge 5", "9 charge 5", "00 charge 5",
                     "10 charge 5", "-1 charge 5", "a charge 5", "0 charges 5", "0 Charge 5", "0  5", "0 pay 5",
                     "0 charge 0", "0 charge -5", "0 charge 05", "0 charge 00", "0 charge 1000000000",
                     "0 charge 0999999999", "0 charge 5/2", "0 charge a", "0 charge ", " 0 charge 5", "0 charge 5 ",
                     "0  charge 5", "0 charge  5", "0 refund 5", "0,charge,5", "0 charge \u0665", "\u0660 charge 5",
                     "0 charge " + "9" * 5000):
            for start in (good + ";", good + ";1 charge 7;", good + ";1 charge 7;1 refund 7;2 charge 1;"):
                self.assertFalse(self.read(start + note), note)
                self.assertFalse(self.read(start + note + ";0 charge 5"), note)
        for note in ("0 charge 5", "3 charge 999999999", "0 charge 1", "2 charge 100000000"):
            self.assertTrue(self.read(f"{good};{note}"))
            self.assertTrue(self.read(f"{good};{note};{note};{note.replace('charge', 'refund')}"))

    def test_balances_below_zero(self):
        good = "10 0 5 5;0 charge 5;1 charge 6"
        for note, fits in (("0 refund 5", True), ("0 refund 6", False), ("1 refund 6", True), ("1 refund 7", False),
                           ("2 refund 1", False), ("3 refund 999999999", False), ("0 refund 1", True)):
            self.assertEqual(self.read(f"{good};{note}"), fits)
            self.assertEqual(self.read(f"{good};{note};2 charge 4"), fits)
            # A charge that comes later does not make up for it.
            self.assertEqual(self.read(f"{good};{note};0 charge 9;1 charge 9"), fits)
        self.assertTrue(self.read(good + ";0 refund 5;0 charge 1;0 refund 1"))
        self.assertFalse(self.read(good + ";0 refund 5;0 charge 1;0 refund 2"))

    def test_200_notes(self):
        for many in (0, 1, 199, 200, 201, 202, 1000):
            self.assertEqual(self.read("1 2 3 4" + ";2 charge 999999999" * many), many <= 200)
        accounts = load_accounts("1 2 3 4" + ";2 charge 1" * 200)
        self.raises(Full, accounts.settle, [NOUGHT] * 4)
        self.assertEqual(accounts.balance(2), 200)

    def test_changed_characters(self):
        read = 0
        for good in ("10 0 5 5;0 charge 120;0 refund 20", "999 1 20 0;3 charge 999999999;2 charge 7"):
            for at in range(len(good) + 1):
                self.read(good[:at])
                self.read(good[:at] + good[at + 1:])
                for code in range(32, 127):
                    read += self.read(good[:at] + chr(code) + good[at:])
                    read += self.read(good[:at] + chr(code) + good[at + 1:])
                self.assertFalse(self.read(good[:at] + " " + good[at:]))
        self.assertGreater(read, 200)

    def test_leading_zeros(self):
        good = "10 0 5 5;0 charge 120;0 refund 20"
        for at, sign in enumerate(good):
            if sign.isdigit() and not good[at - 1:at].isdigit():
                self.assertFalse(self.read(good[:at] + "0" + good[at:]))


if __name__ == "__main__":
    unittest.main()
