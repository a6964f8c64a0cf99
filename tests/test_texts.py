"""Promises [2], [3], [5], inforce/texts.py and inforce/readings.py."""

import inspect
import random
import re
import unittest

from inforce.errors import PriceError, Unreadable
from inforce.lists import PriceList
from inforce.programs import Program
from inforce.readings import read_prices, read_program
from inforce.texts import show_prices, show_program
from tests import plain

DAY = "(?:0|[1-9][0-9]{0,3})"
NUMBER = f"(?:{DAY}|-[1-9][0-9]{{0,3}})"
PRICE = f"(?:{NUMBER}|-)"
ENTRY = f"{DAY}={PRICE}"
PRICES = re.compile(f"(?:{ENTRY}(?: {ENTRY})*)?")
DEED = (
    f"(?:put {DAY} {PRICE}|take {DAY}|end {DAY}|cover {DAY} {DAY} {PRICE}"
    f"|raise {DAY} {DAY} {NUMBER}|repeat {DAY} {DAY} {DAY})"
)
PROGRAM = re.compile(f"(?:{DEED}(?:; {DEED})*)?")


def plain_prices(text):
    """The entries of a text, read in a second way; None if it is none."""
    if not PRICES.fullmatch(text):
        return None
    entries = [
        (int(day), None if price == "-" else int(price)) for day, price in re.findall("([0-9]+)=([-0-9]+)", text)
    ]
    days = [day for day, _ in entries]
    return entries if days == sorted(set(days)) else None


def plain_program(text):
    """The deeds of a text, read in a second way; None if it is none."""
    if not PROGRAM.fullmatch(text):
        return None
    deeds = [
        tuple(word if word.isalpha() else None if word == "-" else int(word) for word in part.split())
        for part in text.split(";") if part
    ]
    for deed in deeds:
        if deed[0] in ("cover", "raise", "repeat") and deed[1] >= deed[2]:
            return None
    return deeds


def some_prices(source, most=8):
    days = source.sample(range(source.choice((12, 120, 10000))), source.randint(0, most))
    return [(day, source.choice((None, 0, source.randint(-9999, 9999), source.randint(-12, 12)))) for day in days]


def some_program(source, most=5):
    return [plain.some_deed(source, source.choice((5, 40, 9999))) for _ in range(source.randint(0, most))]


def spoiled(source, text):
    """The text with a sign or two left out, put in, replaced or doubled."""
    for _ in range(source.randint(1, 2)):
        at = source.randint(0, len(text))
        sign = source.choice("0123456789 --==;; aput+.")
        text = source.choice([
            text[:at] + text[at + 1:], text[:at] + sign + text[at:], text[:at] + sign + text[at + 1:],
            text[:at + 1] + text[at:], text[:at] + text[at + 1:at + 2] + text[at:at + 1] + text[at + 2:],
        ])
    return text


class Checks(unittest.TestCase):
    def assert_unreadable(self, read, text):
        with self.assertRaises(PriceError, msg=repr(text)) as caught:
            read(text)
        self.assertIs(type(caught.exception), Unreadable)
        self.assertEqual(caught.exception.value, text)

    def check_prices(self, entries, text):
        prices = PriceList(entries)
        self.assertEqual(show_prices(prices), text)
        self.assertEqual(prices.entries, PriceList(entries).entries)
        read = read_prices(text)
        self.assertIsInstance(read, PriceList)
        self.assertEqual(read.entries, prices.entries)

    def check_program(self, deeds, text):
        program = Program(deeds)
        self.assertEqual(show_program(program), text)
        self.assertEqual(program.deeds, deeds)
        read = read_program(text)
        self.assertIsInstance(read, Program)
        self.assertEqual(read.deeds, deeds)


class BothWays(Checks):
    def test_prices(self):
        self.check_prices([], "")
        self.check_prices([(0, 0)], "0=0")
        self.check_prices([(3, None)], "3=-")
        self.check_prices([(3, -5)], "3=-5")
        self.check_prices([(20, 7), (10, 5), (15, 5)], "10=5 15=5 20=7")
        self.check_prices([(7, None), (3, 12), (0, -9999), (402, 9999)], "0=-9999 3=12 7=- 402=9999")
        self.check_prices([(9999, 1), (9998, None)], "9998=- 9999=1")
        self.check_prices([(9, 1), (10, 1), (100, 1), (99, 1)], "9=1 10=1 99=1 100=1")

    def test_each_kind_of_deed(self):
        self.check_program([], "")
        self.check_program([("put", 3, 5)], "put 3 5")
        self.check_program([("put", 0, None)], "put 0 -")
        self.check_program([("put", 3, -5)], "put 3 -5")
        self.check_program([("take", 40)], "take 40")
        self.check_program([("end", 0)], "end 0")
        self.check_program([("cover", 2, 6, 9)], "cover 2 6 9")
        self.check_program([("cover", 2, 6, None)], "cover 2 6 -")
        self.check_program([("cover", 0, 1, -9999)], "cover 0 1 -9999")
        self.check_program([("raise", 0, 9, -3)], "raise 0 9 -3")
        self.check_program([("raise", 0, 9, 0)], "raise 0 9 0")
        self.check_program([("repeat", 9, 10, 0)], "repeat 9 10 0")
        self.check_program([("repeat", 9, 10, 9999)], "repeat 9 10 9999")

    def test_several_deeds(self):
        self.check_program(
            [("cover", 2, 6, None), ("raise", 0, 9, -3), ("take", 4)], "cover 2 6 -; raise 0 9 -3; take 4",
        )
        self.check_program([("take", 4), ("take", 4), ("end", 1)], "take 4; take 4; end 1")

    def test_at_random(self):
        source = random.Random(101)
        for _ in range(300):
            entries = some_prices(source)
            text = " ".join(f"{day}={'-' if price is None else price}" for day, price in sorted(entries, key=lambda e: e[0]))
            self.check_prices(entries, text)
            deeds = some_program(source)
            text = "; ".join(" ".join("-" if thing is None else str(thing) for thing in deed) for deed in deeds)
            self.check_program(deeds, text)

    def test_what_deeds_leave(self):
        prices = Program([("raise", 5, 25, 1)]).done(PriceList([(10, 5), (20, 7)]))
        self.check_prices(prices.entries, "5=- 10=6 20=8 25=7")


class Unread(Checks):
    def test_no_prices(self):
        for text in [
            " ", "  ", "-", "=", "3", "3=", "=5", "3=5=6", "3==5", "3 =5", "3= 5", "3-5", "3=5,4=6", "3=5;4=6", "3=5; 4=6",
            " 3=5", "3=5 ", "3=5  4=6", "3=5 4", "3=5 4=", "3=5 =6", "3=54=6", "3=5 4=6 ", "x=5", "3=x", "3=None",
            "a", "3=5a", "a3=5", "3=5.0", "3=1e2", "3=0x1", "3=1_0", "3=(5)", "3=5!", "~", "3:5", "3=5\n", "3=5\t4=6",
        ]:
            self.assert_unreadable(read_prices, text)

    def test_no_program(self):
        for text in [
            " ", ";", "; ", "put", "put ", "take", "end", "cover", "Take 4", "TAKE 4", "buy 4", "take4", "take-4", "4",
            " take 4", "take 4 ", "take  4", "take 4;", "take 4; ", "; take 4", ";take 4", "take 4;take 5", "take 4 ;take 5",
            "take 4 ; take 5", "take 4;  take 5", "take 4;; take 5", "take 4; ; take 5", "take 4 take 5", "take 4, take 5",
            "take x", "take 4x", "take =4", "put 3=5", "3=5", "tak 4", "takes 4", "put, 3, 5", "take 4.", "take 4\n",
            "raise 2 6 x", "put 3 None", "cover 2 6 none", "('take', 4)", "take 4_0",
        ]:
            self.assert_unreadable(read_program, text)

    def test_integers(self):
        for word in ("00", "01", "007", "-0", "-00", "-01", "+3", "+0", "--3", "-+3", "3-", "10000", "-10000", "12345",
                     "99999", "00000", "0000", "3.0", "1e1", "", "- 3", "x"):
            for text in (f"3={word}", f"2=1 3={word}", f"3={word} 4=1"):
                self.assert_unreadable(read_prices, text)
            for text in (f"put 3 {word}", f"cover 2 6 {word}", f"raise 2 6 {word}", f"take 1; put 3 {word}", f"put 3 {word}; take 1"):
                self.assert_unreadable(read_program, text)

    def test_days(self):
        for word in ("00", "01", "-0", "-1", "-9", "-", "+3", "10000", "99999", "", "x", "3.0"):
            self.assert_unreadable(read_prices, f"{word}=5")
            self.assert_unreadable(read_prices, f"{word}=5 9999=5")
            for text in (f"put {word} 5", f"take {word}", f"end {word}", f"cover {word} 9999 5", f"raise {word} 9999 5",
                         f"repeat {word} 9999 5", f"cover 0 {word} 5", f"raise 0 {word} 5", f"repeat 0 {word} 5",
                         f"repeat 2 6 {word}"):
                self.assert_unreadable(read_program, text)

    def test_a_raise_has_a_number(self):
        self.assert_unreadable(read_program, "raise 2 6 -")
        self.assertEqual(read_program("raise 2 6 -1").deeds, [("raise", 2, 6, -1)])

    def test_at_most_4_digits(self):
        self.assertEqual(read_prices("9999=-9999").entries, [(9999, -9999)])
        for prices in (PriceList([(10000, 5)]), PriceList([(3, 10000)]), PriceList([(3, -10000)]), PriceList([(3, 10 ** 30)])):
            self.assert_unreadable(read_prices, show_prices(prices))
        for deed in (("put", 10000, 5), ("put", 3, -10000), ("take", 12345), ("raise", 2, 6, 10000), ("repeat", 2, 6, 10000),
                     ("cover", 2, 10000, 5)):
            self.assert_unreadable(read_program, show_program(Program([deed])))

    def test_entries_ascend(self):
        for text in ("3=5 3=5", "3=5 3=6", "4=5 3=6", "3=- 3=-", "1=1 2=2 2=2 3=3", "1=1 3=2 2=3", "9=1 8=1", "10=1 9=1",
                     "0=1 0=1", "1=5 2=5 0=5"):
            self.assert_unreadable(read_prices, text)
        self.assertEqual(len(read_prices("9=1 10=1")), 2)

    def test_another_first_text(self):
        for word in ("buy", "Put", "puts", "pu", "", "p", "-", "0", "=", "putt", "taker", "covers", "raised", "puttake"):
            for rest in ("", " 3", " 3 5", " 2 6 5"):
                self.assert_unreadable(read_program, (word + rest) or " ")

    def test_too_few_or_too_many_things(self):
        right = {"put": 2, "take": 1, "end": 1, "cover": 3, "raise": 3, "repeat": 3}
        for kind, many in right.items():
            for some in range(6):
                text = " ".join([kind, "2", "6", "7", "8", "9"][:1 + some])
                if some == many:
                    self.assertEqual(len(read_program(text)), 1)
                else:
                    self.assert_unreadable(read_program, text)
                    self.assert_unreadable(read_program, "take 3; " + text)
                    self.assert_unreadable(read_program, text + "; take 3")

    def test_first_day_less_than_the_day_behind(self):
        for kind in ("cover", "raise", "repeat"):
            for first, behind in ((0, 0), (3, 3), (3, 2), (10, 9), (9999, 9998), (402, 0)):
                self.assert_unreadable(read_program, f"{kind} {first} {behind} 5")
            self.assertEqual(len(read_program(f"{kind} 9 10 5")), 1)
        self.assertEqual(read_program("repeat 3 4 3").deeds, [("repeat", 3, 4, 3)])

    def test_the_whole_text_is_told(self):
        self.assert_unreadable(read_prices, "1=5 2=6 x 4=5")
        self.assert_unreadable(read_program, "take 4; take x; end 5")
        self.assert_unreadable(read_program, "x; y")

    def test_texts_of_the_other_kind(self):
        self.assert_unreadable(read_prices, "take 4")
        self.assert_unreadable(read_program, "4=5")

    def test_spoiled_at_random(self):
        source = random.Random(102)
        found = []
        for _ in range(4000):
            text = spoiled(source, show_prices(PriceList(some_prices(source, 4))))
            expected = plain_prices(text)
            found.append(expected is None)
            if expected is None:
                self.assert_unreadable(read_prices, text)
            else:
                self.assertEqual(read_prices(text).entries, expected)
                self.assertEqual(show_prices(read_prices(text)), text)
            text = spoiled(source, show_program(Program(some_program(source, 3))))
            expected = plain_program(text)
            found.append(expected is None)
            if expected is None:
                self.assert_unreadable(read_program, text)
            else:
                self.assertEqual(read_program(text).deeds, expected)
                self.assertEqual(show_program(read_program(text)), text)
        self.assertGreater(found.count(True), 1000)
        self.assertGreater(found.count(False), 1000)

    def test_signs_at_random(self):
        source = random.Random(103)
        signs = [chr(code) for code in range(32, 127) if chr(code) != "%"]
        for sign in signs:
            for text in (sign, sign * 2, "3=5" + sign, sign + "3=5", "3" + sign + "5", "3=5" + sign + "4=6"):
                if plain_prices(text) is None:
                    self.assert_unreadable(read_prices, text)
                else:
                    self.assertEqual(read_prices(text).entries, plain_prices(text))
            for text in (sign, "take 4" + sign, sign + "take 4", "take" + sign + "4", "take 4;" + sign + "take 5"):
                if plain_program(text) is None:
                    self.assert_unreadable(read_program, text)
                else:
                    self.assertEqual(read_program(text).deeds, plain_program(text))
        for _ in range(300):
            text = "".join(source.choice(signs) for _ in range(source.randint(1, 6)))
            if plain_prices(text) is None:
                self.assert_unreadable(read_prices, text)
            if plain_program(text) is None:
                self.assert_unreadable(read_program, text)


class AnySize(Checks):
    def test_many_entries(self):
        entries = [(day, None if day > 9 else day) for day in range(518)]
        text = " ".join(f"{day}={'-' if price is None else price}" for day, price in entries)
        self.assertTrue(2900 < len(text) <= 3000)
        self.check_prices(entries, text)
        self.assert_unreadable(read_prices, text + " ")
        self.assert_unreadable(read_prices, text + " 517=-")

    def test_many_deeds(self):
        for deed, text in [(("end", 0), "end 0"), (("take", 4), "take 4"), (("repeat", 2, 9999, 9999), "repeat 2 9999 9999")]:
            many = 3002 // (len(text) + 2)
            whole = "; ".join([text] * many)
            self.assertTrue(2900 < len(whole) <= 3000)
            self.check_program([deed] * many, whole)
            self.assert_unreadable(read_program, whole + " ")
            self.assert_unreadable(read_program, whole + ";")

    def test_long_texts_that_are_none(self):
        for text in ("9" * 3000, " " * 3000, "3=5" * 1000, "-" * 3000, "3=" + "1" * 2998, "=" * 3000, ";" * 3000,
                     "take " * 600, "take 4;" * 428, "take " + "4" * 2995, "put 3 -" + "0" * 2993, "; " * 1500):
            self.assert_unreadable(read_prices, text)
            self.assert_unreadable(read_program, text)


class Arguments(Checks):
    def test_by_position_and_by_name(self):
        self.assertEqual(show_prices(prices=PriceList([(3, 5)])), "3=5")
        self.assertEqual(show_program(program=Program([("take", 3)])), "take 3")
        self.assertEqual(read_prices(text="3=5"), PriceList([(3, 5)]))
        self.assertEqual(read_program(text="take 3"), Program([("take", 3)]))
        for read in (read_prices, read_program):
            with self.assertRaises(Unreadable) as caught:
                read(text="x")
            self.assertEqual(caught.exception.value, "x")

    def test_names_of_arguments(self):
        for told, name, module in [
            (show_prices, "prices", "inforce.texts"), (show_program, "program", "inforce.texts"),
            (read_prices, "text", "inforce.readings"), (read_program, "text", "inforce.readings"),
        ]:
            self.assertEqual(list(inspect.signature(told).parameters), [name])
            self.assertEqual(told.__module__, module)

    def test_each_answer_is_new(self):
        prices, program = read_prices("3=5"), read_program("take 3")
        prices.entries.clear(), program.deeds.clear(), prices.changes().clear()
        self.assertEqual([prices, program], [read_prices("3=5"), read_program("take 3")])
        self.assertEqual([show_prices(prices), show_program(program)], ["3=5", "take 3"])
        self.assertIs(type(show_prices(prices)), str)

    def test_things_read_are_integers(self):
        for day, price in read_prices("0=1 1=-1").entries:
            self.assertEqual([type(day), type(price)], [int, int])
        for deed in read_program("put 0 1; raise 0 1 0").deeds:
            self.assertEqual([type(thing) for thing in deed], [str] + [int] * (len(deed) - 1))


if __name__ == "__main__":
    unittest.main()
