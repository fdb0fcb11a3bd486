"""Things written as lines and read from them: point 15."""

import random
import unittest

from freshbook.errors import FreshError, NoLine
from freshbook.lines import read, shown

HUGE = 10 ** 100

# Things of three desks, and the line of each.
WRITTEN = (
    (("oats", 0, -5), "oats at 0 is -5"),
    (("rye", 1, 7), "rye at 1 is 7"),
    (("a", 2, 0), "a at 2 is 0"),
    (("z", 0, 10), "z at 0 is 10"),
    (("at", 0, -10), "at at 0 is -10"),
    (("is", 2, 100), "is at 2 is 100"),
    (("abcdefghijklmnopqrstuvwxyz", 1, -1), "abcdefghijklmnopqrstuvwxyz at 1 is -1"),
    (("hay", 0, 9876543210), "hay at 0 is 9876543210"),
    (("bran", 0, HUGE - 1), "bran at 0 is " + "9" * 100),
    (("corn", 0, 1 - HUGE), "corn at 0 is -" + "9" * 100),
    (("spelt", 0, HUGE ** 2), "spelt at 0 is 1" + "0" * 200),
    (("wheat", 0, -(HUGE ** 2)), "wheat at 0 is -1" + "0" * 200),
    (("b" * 300, 0, 1), "b" * 300 + " at 0 is 1"),
)

# Lines that no thing of three desks is written as.
REFUSED = {
    "empty": ["", " ", "\n", "    "],
    "no name": [" at 0 is 5", "at 0 is 5", "  at 0 is 5"],
    "other signs in a name": [
        "oat1 at 0 is 5",
        "oats, at 0 is 5",
        "oats_a at 0 is 5",
        "oats-a at 0 is 5",
        "oats. at 0 is 5",
        "1 at 0 is 5",
        "- at 0 is 5",
        "oats` at 0 is 5",
        "oats{ at 0 is 5",
        "\u00e4pfel at 0 is 5",
        "oat\u017f at 0 is 5",
        "\uff4fats at 0 is 5",
        "\u0430 at 0 is 5",
        "oats\0 at 0 is 5",
        "oats\u200b at 0 is 5",
        "'oats' at 0 is 5",
    ],
    "an upper-case letter": [
        "Oats at 0 is 5",
        "oatS at 0 is 5",
        "OATS at 0 is 5",
        "oAts at 0 is 5",
        "A at 0 is 5",
        "Z at 0 is 5",
    ],
    "two names": ["oats rye at 0 is 5", "oats at at 0 is 5"],
    "a blank at either end": [" oats at 0 is 5", "oats at 0 is 5 ", "  oats at 0 is 5", "oats at 0 is 5  "],
    "a blank too many": [
        "oats  at 0 is 5",
        "oats at  0 is 5",
        "oats at 0  is 5",
        "oats at 0 is  5",
        "oats at 0 is - 5",
        "oats at 0 is 1 5",
    ],
    "a blank too few": ["oatsat 0 is 5", "oats at0 is 5", "oats at 0is 5", "oats at 0 is5", "oatsat0is5"],
    "another blank": [
        "oats\tat 0 is 5",
        "oats at\t0 is 5",
        "oats at 0\tis 5",
        "oats at 0 is\t5",
        "oats at 0 is\u00a05",
        "oats\u2003at 0 is 5",
        "oats\nat 0 is 5",
        "oats at\r0 is 5",
        "oats at 0 is 5\t",
        "oats at 0 is\t 5",
        "oats at 0 is \t5",
    ],
    "a line feed": [
        "oats at 0 is 5\n",
        "oats at 0 is 5\r\n",
        "oats at 0 is 5\r",
        "\noats at 0 is 5",
        "oats\n at 0 is 5",
        "oats at 0\n is 5",
        "oats at 0 is\n5",
        "oats at 0 is 5\nrye at 0 is 5",
    ],
    "another word": [
        "oats in 0 is 5",
        "oats At 0 is 5",
        "oats AT 0 is 5",
        "oats at 0 = 5",
        "oats at 0 Is 5",
        "oats at 0 was 5",
        "oats is 0 at 5",
        "oats is 0 is 5",
        "oats at 0 at 5",
        "oats a 0 is 5",
        "oats att 0 is 5",
        "oats at 0 i 5",
        "oats at 0 iss 5",
        "oats @ 0 is 5",
    ],
    "parts too few or too many": [
        "oats",
        "oats at",
        "oats at 0",
        "oats at 0 is",
        "oats at 0 is ",
        "oats at is 5",
        "oats at  is 5",
        "oats 0 is 5",
        "oats at 0 5",
        "oats 0 5",
        "oats at 0 is 5 5",
        "oats at 0 is 5 is 5",
        "oats at 0 is 5 rye at 0 is 5",
        "oats at 0 is 5,",
        "oats at 0 is 5;",
        "oats at 0 is 5 # five",
    ],
    "no such keeper": [
        "oats at 3 is 5",
        "oats at 4 is 5",
        "oats at 20 is 5",
        "oats at 10 is 5",
        "oats at -1 is 5",
        "oats at -2 is 5",
        "oats at -3 is 5",
        "oats at -20 is 5",
        "oats at 1" + "0" * 100 + " is 5",
        "oats at -1" + "0" * 100 + " is 5",
    ],
    "a nought ahead": [
        "oats at 00 is 5",
        "oats at 01 is 5",
        "oats at 02 is 5",
        "oats at 0 is 05",
        "oats at 0 is 00",
        "oats at 0 is -05",
        "oats at 0 is 0000005",
        "oats at 0 is 010",
        "oats at 0 is -010",
        "oats at 0 is 000",
    ],
    "nought with a sign": ["oats at 0 is -0", "oats at -0 is 5", "oats at 0 is -00", "oats at -00 is 5"],
    "a plus": [
        "oats at 0 is +5",
        "oats at +0 is 5",
        "oats at +1 is 5",
        "oats at 0 is +0",
        "oats at 0 is +-5",
        "oats at 0 is -+5",
    ],
    "signs without figures or too many": [
        "oats at 0 is -",
        "oats at 0 is --5",
        "oats at 0 is 5-",
        "oats at 0 is 5-5",
        "oats at - is 5",
        "oats at 0 is +",
        "oats at 0 is ---",
    ],
    "figures of other scripts": [
        "oats at 0 is \u0665",
        "oats at \u0660 is 5",
        "oats at 0 is 1\u0665",
        "oats at 0 is \uff15",
        "oats at \uff10 is 5",
        "oats at 0 is \u00b2",
        "oats at 0 is 5\u00b2",
        "oats at 0 is \u2460",
        "oats at 0 is \u096b",
        "oats at 0 is -\u0665",
        "oats at 0 is \u22125",
        "oats at 0 is \u2164",
    ],
    "other writings of numbers": [
        "oats at 0 is 5.0",
        "oats at 0 is 5.",
        "oats at 0 is 1_0",
        "oats at 0 is 1,000",
        "oats at 0 is 1e3",
        "oats at 0 is 0x5",
        "oats at 0 is 0b1",
        "oats at 0 is 0o5",
        "oats at 0 is five",
        "oats at 0 is a",
        "oats at nought is 5",
        "oats at a is 5",
        "oats at 0.0 is 5",
        "oats at 1_0 is 5",
        "oats at 0 is True",
        "oats at True is 5",
        "oats at 0 is None",
    ],
}


class ShownTest(unittest.TestCase):
    def test_each_by_itself(self):
        for thing, line in WRITTEN:
            with self.subTest(line=line):
                self.assertEqual(repr(shown([thing])), repr([line]))

    def test_none_and_many_in_the_order_they_are_told(self):
        self.assertEqual(shown([]), [])
        things = [thing for thing, line in WRITTEN]
        lines = [line for thing, line in WRITTEN]
        self.assertEqual(shown(things), lines)
        self.assertEqual(shown(things[::-1]), lines[::-1])

    def test_keepers_of_two_figures(self):
        self.assertEqual(shown([("oats", 19, 1), ("rye", 10, 2)]), ["oats at 19 is 1", "rye at 10 is 2"])

    def test_things_are_as_they_were(self):
        things = [thing for thing, line in WRITTEN]
        got = shown(things)
        got.clear()
        self.assertEqual(things, [thing for thing, line in WRITTEN])

    def test_a_name_that_no_line_has_is_refused(self):
        for name in ("", "Oats", "oats rye", " ", "oat1", "oats\n", "\u00e4"):
            with self.subTest(name=name):
                with self.assertRaises(NoLine):
                    shown([("rye", 0, 1), (name, 0, 5)])


class ReadTest(unittest.TestCase):
    def test_each_by_itself(self):
        for thing, line in WRITTEN:
            with self.subTest(line=line):
                self.assertEqual(repr(read(3, [line])), repr([thing]))

    def test_none_and_many_in_the_order_of_the_lines(self):
        self.assertEqual(read(1, []), [])
        things = [thing for thing, line in WRITTEN]
        lines = [line for thing, line in WRITTEN]
        self.assertEqual(repr(read(3, lines)), repr(things))
        self.assertEqual(repr(read(3, lines[::-1])), repr(things[::-1]))

    def test_lines_are_as_they_were(self):
        lines = ["rye at 0 is 5", "oats at 1 is 5"]
        got = read(3, lines)
        self.assertEqual(lines, ["rye at 0 is 5", "oats at 1 is 5"])
        lines.clear()
        self.assertEqual(got, [("rye", 0, 5), ("oats", 1, 5)])

    def test_the_last_keeper_and_the_next_one(self):
        for count in (1, 2, 3, 10, 11, 20, 25, HUGE):
            with self.subTest(count=count):
                self.assertEqual(read(count, [f"oats at {count - 1} is 5"]), [("oats", count - 1, 5)])
                self.assertEqual(read(count, ["oats at 0 is 5"]), [("oats", 0, 5)])
                for keeper in (count, count + 1, -1, -count):
                    with self.assertRaises(NoLine):
                        read(count, [f"oats at {keeper} is 5"])

    def test_two_hundred_lines_and_more(self):
        letters = "abcdefghijklmnop"
        names = [first + second for first in letters for second in letters][:250]
        things = [(name, number % 20, number) for number, name in enumerate(names)]
        self.assertEqual(read(20, shown(things)), things)


class BackToTheOtherTest(unittest.TestCase):
    def test_over_many_drawn(self):
        chance = random.Random(15)
        for story in range(200):
            count = chance.randint(1, 22)
            things = [(name, chance.randrange(count), drawn_number(chance)) for name in drawn_names(chance)]
            lines = shown(things)
            self.assertEqual(lines, [f"{name} at {keeper} is {value}" for name, keeper, value in things])
            self.assertEqual(repr(read(count, lines)), repr(things))
            self.assertEqual(shown(read(count, lines)), lines)

    def test_numbers_of_every_size(self):
        for figures in range(0, 131):
            for value in (10 ** figures, 10 ** figures - 1, -(10 ** figures), 1 - 10 ** figures, 10 ** figures + 1):
                self.assertEqual(read(1, shown([("oats", 0, value)])), [("oats", 0, value)])


def drawn_names(chance):
    drawn = ["".join(chance.choices("abcxyz", k=chance.randint(1, 6))) for number in range(chance.randint(0, 30))]
    return list(dict.fromkeys(drawn))


def drawn_number(chance):
    size = chance.randrange(10 ** chance.randint(0, 120))
    return chance.choice((-size, size))


class NoLineTest(unittest.TestCase):
    def refuse(self, lines, count=3):
        with self.assertRaises(NoLine):
            read(count, lines)

    def test_each_kind_alone(self):
        for kind, lines in REFUSED.items():
            for line in lines:
                with self.subTest(kind, line=line):
                    self.refuse([line])

    def test_each_kind_among_good_ones(self):
        good = ["wheat at 0 is 1", "spelt at 1 is 2"]
        self.assertEqual(read(3, good), [("wheat", 0, 1), ("spelt", 1, 2)])
        for kind, lines in REFUSED.items():
            for line in lines:
                with self.subTest(kind, line=line):
                    self.refuse([line] + good)
                    self.refuse(good[:1] + [line] + good[1:])
                    self.refuse(good + [line])

    def test_each_sign_in_each_place(self):
        for sign in map(chr, range(256)):
            with self.subTest(sign=sign):
                if not "a" <= sign <= "z":
                    self.refuse([sign + " at 0 is 5"])
                    self.refuse(["oa" + sign + "ts at 0 is 5"])
                if not "0" <= sign <= "9":
                    self.refuse(["oats at " + sign + " is 5"])
                    self.refuse(["oats at 1" + sign + " is 5"], count=300)
                    self.refuse(["oats at 0 is " + sign])
                    self.refuse(["oats at 0 is 5" + sign])
                    self.refuse(["oats at 0 is 1" + sign + "5"])

    def test_a_name_twice(self):
        self.refuse(["oats at 0 is 5", "oats at 0 is 5"])
        self.refuse(["oats at 0 is 5", "oats at 1 is 5"])
        self.refuse(["oats at 0 is 5", "oats at 0 is 6"])
        self.refuse(["rye at 0 is 5", "oats at 0 is 5", "hay at 0 is 5", "oats at 2 is 0"])
        self.refuse(["oats at 0 is 5"] * 3)

    def test_like_names_are_not_the_same(self):
        lines = ["oats at 0 is 5", "oat at 0 is 5", "oatss at 0 is 5", "o at 0 is 5"]
        self.assertEqual([thing[0] for thing in read(1, lines)], ["oats", "oat", "oatss", "o"])

    def test_very_long_numbers(self):
        self.refuse(["oats at " + "9" * 5000 + " is 5"])
        self.refuse(["oats at 0 is 0" + "9" * 5000])

    def test_it_is_a_fresh_error_and_a_value_error(self):
        for kind in (NoLine, FreshError, ValueError):
            with self.assertRaises(kind):
                read(3, ["oats"])
        with self.assertRaises(ValueError) as caught:
            read(3, ["oats at 0 is \u00b2"])
        self.assertIs(type(caught.exception), NoLine)

    def test_good_lines_are_read_behind_a_refusal(self):
        self.refuse(["oats at 0 is 5", "oats at 0 is 5"])
        self.assertEqual(read(3, ["oats at 0 is 5"]), [("oats", 0, 5)])
