"""Texts of tables, shots and cushions ([19])."""

import unittest
from itertools import product
from random import Random

from cushionshots.errors import InvalidCushions, InvalidShot, InvalidTable, InvalidText
from cushionshots.places import scaled
from cushionshots.texts import format_cushions, format_shot, format_table, parse_cushions, parse_shot, parse_table
from tests.quick import Watched
from tests.slow import some_shot

GREAT = 10 ** 40 - 1
DIGITS = "0123456789"
LETTERS = "WESN"
# What is no integer in a text, though int() might read it.
NO_NUMBERS = [
    "", "-", "+1", "+0", "-0", "00", "01", "-01", "007", "1_0", "1.0", "1e1", "0x1", " 1", "1 ", "--1", "1-", "- 1",
    "\u0661", "\u00b2", "\uff11", "\u0967", "x", "O", "l", "None", "True", "1,", "\t1", "1\n", "\u22121", "1\u00a0", "1\x00",
]


def is_number(word):
    """Whether a word is an integer as the document writes it, sign by sign."""
    digits = word[1:] if word[:1] == "-" else word
    if digits == "" or any(sign not in DIGITS for sign in digits):
        return False
    return word == "0" or digits[0] != "0"


def table_of(text):
    """The table that a text tells, or None."""
    words = text.split("x")
    if len(words) != 2 or not all(is_number(word) for word in words):
        return None
    told = tuple(int(word) for word in words)
    return told if min(told) >= 1 else None


def shot_of(text):
    """The shot that a text tells, or None."""
    words = text.split(" ")
    if len(words) != 4 or not all(is_number(word) for word in words):
        return None
    told = tuple(int(word) for word in words)
    return told if min(told[:2]) >= 0 and told[2:] != (0, 0) else None


def cushions_of(text):
    """The cushions that a text tells, or None."""
    words = text.split(" ")
    return words if all(word in tuple(LETTERS) for word in words) else None


def changed(chance, text, signs):
    """A text with one or some signs changed, left out, put in, doubled or exchanged."""
    for _ in range(chance.choice((1, 1, 1, 2, 3))):
        at = chance.randrange(len(text) + 1)
        other = chance.randrange(len(text) + 1)
        text = chance.choice((
            text[:at] + chance.choice(signs) + text[at + 1:],
            text[:at] + text[at + 1:],
            text[:at] + chance.choice(signs) + text[at:],
            text[:at] + text[at:at + 1] * 2 + text[at + 1:],
            text[:at] + text[at + 1:at + 2] + text[at:at + 1] + text[at + 2:],
            text[:at] + text[other:],
        ))
    return text


class TextsTest(Watched):
    def assert_text(self, read, text, wanted):
        """Held against the value that a text tells, None for none."""
        if wanted is None:
            with self.assertRaises(InvalidText, msg=repr(text)):
                read(text)
            return
        told = read(text)
        self.assertEqual(told, wanted, repr(text))
        self.assertIs(type(told), type(wanted))


class FormatTest(TextsTest):
    def test_texts_as_told(self):
        self.assertEqual(format_table((4, 2)), "4x2")
        self.assertEqual(format_table((1, 1000)), "1x1000")
        self.assertEqual(format_shot((1, 0, 1, 1)), "1 0 1 1")
        self.assertEqual(format_shot((10, 20, -30, -4)), "10 20 -30 -4")
        self.assertEqual(format_shot((0, 0, 0, -1)), "0 0 0 -1")
        self.assertEqual(format_cushions(["W"]), "W")
        self.assertEqual(format_cushions(["N", "E", "S", "N", "W", "S"]), "N E S N W S")

    def test_shots_of_any_table(self):
        self.assertEqual(format_shot((5, 7, 0, 1)), "5 7 0 1")
        self.assertEqual(parse_shot("5 7 0 1"), (5, 7, 0, 1))

    def test_wrong_values(self):
        for value in ((4, 0), (0, 2), [4, 2], "4x2", (4, 2, 1), (True, 2), None, (4,), ()):
            with self.assertRaises(InvalidTable):
                format_table(value)
        for value in ((1, 0, 0, 0), (-1, 0, 1, 1), (0, -1, 1, 1), [1, 0, 1, 1], "1 0 1 1", (1, 0, 1), (1, 0, 1, True), None):
            with self.assertRaises(InvalidShot):
                format_shot(value)
        for value in ([], ("N",), "N", ["NE"], ["n"], ["N", None], [""], ["N", ""], None, {"N": 1}):
            with self.assertRaises(InvalidCushions):
                format_cushions(value)


class BackTest(TextsTest):
    def test_tables(self):
        for sides in product((1, 2, 9, 10, 11, 99, 100, 1001, GREAT, 10 ** 39), repeat=2):
            text = format_table(sides)
            self.assertEqual(text, str(sides[0]) + "x" + str(sides[1]))
            self.assert_text(parse_table, text, sides)

    def test_shots(self):
        for place in product((0, 1, 10, GREAT), repeat=2):
            for way in product((0, 1, -1, 10, -10, -100, GREAT, -GREAT), repeat=2):
                if way != (0, 0):
                    text = format_shot(place + way)
                    self.assertEqual(text, " ".join(str(number) for number in place + way))
                    self.assert_text(parse_shot, text, place + way)

    def test_cushions(self):
        for many in range(1, 5):
            for told in product(LETTERS, repeat=many):
                self.assert_text(parse_cushions, format_cushions(list(told)), list(told))
        self.assert_text(parse_cushions, format_cushions(["S", "N"] * 30), ["S", "N"] * 30)

    def test_by_chance(self):
        chance = Random(71)
        for _ in range(2000):
            greatest = 10 ** chance.randint(0, 40)
            table = (chance.randint(1, greatest), chance.randint(1, greatest))
            shot = some_shot(chance, table, greatest)
            cushions = [chance.choice(LETTERS) for _ in range(chance.randint(1, 60))]
            self.assert_text(parse_table, format_table(table), table)
            self.assert_text(parse_shot, format_shot(shot), shot)
            self.assert_text(parse_cushions, format_cushions(cushions), cushions)

    def test_each_list_is_a_new_one(self):
        told = parse_cushions("N E")
        told.append("W")
        self.assertEqual(parse_cushions("N E"), ["N", "E"])
        cushions = ["N", "E"]
        format_cushions(cushions)
        self.assertEqual(cushions, ["N", "E"])

    def test_numbers_of_any_size(self):
        for number in (10 ** 64 - 1, 10 ** 64, 10 ** 64 + 1, 10 ** 128, 10 ** 128 - 1, 7 * 10 ** 200 + 10 ** 64 + 3):
            self.assertEqual(format_table((number, 1)), str(number) + "x1")
            self.assert_text(parse_table, "1x" + str(number), (1, number))
            self.assertEqual(format_shot((0, number, -number, 0)), "0 {0} -{0} 0".format(number))
            self.assert_text(parse_shot, "0 {0} -{0} 0".format(number), (0, number, -number, 0))

    def test_tables_that_are_scaled_again_and_again(self):
        table, shot = (4, 2), (1, 0, -1, 1)
        for _ in range(140):
            table, shot = scaled(table, shot, GREAT)
        self.assertGreater(table[0], 10 ** 5000)
        self.assert_text(parse_table, format_table(table), table)
        self.assert_text(parse_shot, format_shot(shot), shot)

    def test_long_texts(self):
        digits = "9" * 3990
        self.assertEqual(format_table(parse_table(digits + "x1")), digits + "x1")
        self.assertEqual(format_shot(parse_shot("0 0 1 -" + digits)), "0 0 1 -" + digits)
        self.assert_text(parse_table, digits, None)
        self.assert_text(parse_table, "0" + digits + "x1", None)
        self.assert_text(parse_cushions, " ".join("W" * 2000), ["W"] * 2000)
        self.assert_text(parse_cushions, " ".join("W" * 2000) + " ", None)


class WrongTextsTest(TextsTest):
    def test_no_tables(self):
        for text in (
            "", "x", "4", "4x", "x2", "42", "4X2", "4x2x1", "4xx2", "4 x 2", " 4x2", "4x2 ", "4x 2", "4 x2", "4x2\n",
            "\n4x2", "4\tx2", "0x2", "4x0", "0x0", "-4x2", "4x-2", "-0x2", "+4x2", "4x+2", "04x2", "4x02", "4,2",
            "(4, 2)", "4*2", "4\u00d72", "\u0664x2", "4x\u00b2", "4_0x2", "4x2x", "x4x2", "4-2", "None", "4x2\x00",
        ):
            self.assert_text(parse_table, text, None)

    def test_no_shots(self):
        for text in (
            "", " ", "   ", "1", "1 0", "1 0 1", "1 0 1 1 1", "1 0 0 0", "-1 0 1 1", "1 -1 1 1", "1 0 1  1", " 1 0 1 1",
            "1 0 1 1 ", "1\t0 1 1", "1\n0\n1\n1", "1 0 1 1\n", "1 0 +1 1", "01 0 1 1", "1 00 1 1", "1 0 -01 1",
            "1 0 -0 1", "-0 0 1 1", "1 0 1 -0", "1,0,1,1", "(1, 0, 1, 1)", "1 0 1 1.0", "1 0 - 1", "1 0 1 --1",
            "1 0 1 \u0661", "1\u00a00 1 1", "1_0 0 1 1", "1 0 1 x", "1x0x1x1", "1 0 1 1-",
        ):
            self.assert_text(parse_shot, text, None)

    def test_no_cushions(self):
        for text in (
            "", " ", "  ", "n", "w e", "NE", "N  E", " N E", "N E ", "N\tE", "N\nE", "N E\n", "N,E", "X", "N X", "N e",
            "N, E", "['N']", "WESN", "N-E", "\uff37", "N\u00a0E", "None", "N 1", "N  ", "NES W",
        ):
            self.assert_text(parse_cushions, text, None)

    def test_words_that_are_no_integers(self):
        for word in NO_NUMBERS:
            self.assert_text(parse_table, word + "x2", None)
            self.assert_text(parse_table, "4x" + word, None)
            for at in range(4):
                words = ["1", "0", "1", "1"]
                words[at] = word
                self.assert_text(parse_shot, " ".join(words), None)

    def test_changed_by_chance(self):
        chance = Random(72)
        right = wrong = 0
        for _ in range(6000):
            table = (chance.randint(1, 120), chance.randint(1, 12))
            shot = some_shot(chance, table, chance.choice((1, 9, 120)))
            cushions = [chance.choice(LETTERS) for _ in range(chance.randint(1, 5))]
            for read, write, value, wanted, signs in (
                (parse_table, format_table, table, table_of, "x01X -+\t\n_\u0661"),
                (parse_shot, format_shot, shot, shot_of, " 01-+\t\n_x\u0661"),
                (parse_cushions, format_cushions, cushions, cushions_of, " WESNwn\t\n,x"),
            ):
                text = changed(chance, write(value), signs)
                told = wanted(text)
                self.assert_text(read, text, told)
                if told is None:
                    wrong += 1
                else:
                    self.assertEqual(write(told), text)
                    right += 1
        self.assertGreater(right, 2000)
        self.assertGreater(wrong, 6000)

    def test_all_short_texts(self):
        for many in range(5):
            for signs in product("x01-", repeat=many):
                self.assert_text(parse_table, "".join(signs), table_of("".join(signs)))
            for signs in product("WN nx", repeat=many):
                self.assert_text(parse_cushions, "".join(signs), cushions_of("".join(signs)))
        for signs in product(" 01-", repeat=7):
            self.assert_text(parse_shot, "".join(signs), shot_of("".join(signs)))

    def test_no_strings(self):
        for value in (
            None, True, False, 0, 42, 4.2, (4, 2), (1, 0, 1, 1), ["W"], ["4", "2"], ("W",), {"W": 1}, {"W"}, b"4x2",
            b"W", b"1 0 1 1", bytearray(b"W"), str, len, ..., object(), [], (), {}, ("4x2",),
        ):
            for read in (parse_table, parse_shot, parse_cushions):
                self.assert_text(read, value, None)

    def test_by_name(self):
        self.assertEqual(parse_table(text="4x2"), (4, 2))
        self.assertEqual(parse_shot(text="1 0 1 1"), (1, 0, 1, 1))
        self.assertEqual(parse_cushions(text="N E"), ["N", "E"])
        self.assertEqual(format_table(table=(4, 2)), "4x2")
        self.assertEqual(format_shot(shot=(1, 0, 1, 1)), "1 0 1 1")
        self.assertEqual(format_cushions(cushions=["N", "E"]), "N E")


if __name__ == "__main__":
    unittest.main()
