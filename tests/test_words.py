import random
import unittest

from gluewords.errors import BadWord
from gluewords.words import back, is_word, short, times
from oracle import (
    HOSTILE_THINGS, ODD_THINGS, WRONG_TEXTS, all_ends, random_word, shrunk, texts, turned,
)

SMALL = "abcdefghijklmnopqrstuvwxyz"


class WhatIsAWord(unittest.TestCase):
    def test_words(self):
        for word in ["", "a", "Z", "abAB", "aA", "zzz", SMALL, SMALL.upper(), "abBA" * 25]:
            self.assertIs(is_word(word), True, word)

    def test_each_sign_alone_and_within(self):
        for code in range(128):
            sign = chr(code)
            is_letter = sign in SMALL or sign in SMALL.upper()
            for text in (sign, "a" + sign, sign + "Z", "a" + sign + "b"):
                self.assertIs(is_word(text), is_letter, repr(text))

    def test_wrong_texts(self):
        for text in WRONG_TEXTS:
            self.assertIs(is_word(text), False, repr(text))

    def test_odd_things(self):
        for thing in ODD_THINGS:
            self.assertIs(is_word(thing), False, repr(thing))

    def test_hostile_things_raise_nothing(self):
        for thing in HOSTILE_THINGS:
            self.assertIs(is_word(thing), False)


class Short(unittest.TestCase):
    def test_words(self):
        cases = {
            "": "", "a": "a", "A": "A", "aA": "", "Aa": "", "aa": "aa", "ab": "ab", "aB": "aB",
            "abBA": "", "abBa": "aa", "aAa": "a", "abA": "abA", "aAbB": "", "abABbaBA": "",
            "cabBAd": "cd", "zZZz": "", "Zz": "", "aBbAc": "c", "abab": "abab", "aAA": "A",
        }
        for word, told in cases.items():
            self.assertEqual(short(word), told, word)

    def test_each_order_comes_to_the_one_short_word(self):
        for word in texts("abAB", 6):
            self.assertEqual(all_ends(word), {short(word)}, word)

    def test_short_of_short(self):
        for word in texts("abAB", 5):
            self.assertEqual(short(short(word)), short(word))
            self.assertIs(type(short(word)), str)

    def test_long_words(self):
        chance = random.Random(1)
        for letters in ("aA", "abAB", "abcABC", SMALL + SMALL.upper()):
            for _ in range(20):
                word = random_word(chance, letters, 100)
                self.assertEqual(short(word), shrunk(word))
        self.assertEqual(short("a" * 50 + "A" * 50), "")
        self.assertEqual(short("ab" * 2000 + "BA" * 1999), "ab")

    def test_no_letters_that_are_none_anothers_backs_fall_away(self):
        for one in SMALL + SMALL.upper():
            for other in SMALL + SMALL.upper():
                told = "" if other == turned(one) else one + other
                self.assertEqual(short(one + other), told)


class Back(unittest.TestCase):
    def test_words(self):
        cases = {
            "": "", "a": "A", "A": "a", "ab": "BA", "aB": "bA", "aab": "BAA", "abA": "aBA",
            "aA": "", "abBa": "AA", "abBA": "", "cabBA": "C", "aAb": "B", "Zz": "",
        }
        for word, told in cases.items():
            self.assertEqual(back(word), told, word)

    def test_back_of_back_and_product(self):
        for word in texts("abAB", 5):
            self.assertEqual(back(back(word)), short(word))
            self.assertEqual(back(word), back(short(word)))
            self.assertEqual(times(word, back(word)), "")
            self.assertEqual(times(back(word), word), "")


class Times(unittest.TestCase):
    def test_words(self):
        cases = {
            ("", ""): "", ("a", ""): "a", ("", "a"): "a", ("a", "b"): "ab", ("b", "a"): "ba",
            ("a", "A"): "", ("ab", "BA"): "", ("ab", "Bc"): "ac", ("abc", "CBd"): "ad",
            ("aA", "bB"): "", ("aAb", ""): "b", ("", "aAb"): "b", ("abBA", "aBbA"): "",
            ("ab", "BBA"): "aBA", ("a", "Aab"): "ab", ("aab", "BA"): "a",
        }
        for (one, other), told in cases.items():
            self.assertEqual(times(one, other), told, (one, other))

    def test_all_small_pairs(self):
        words = texts("abAB", 3)
        for one in words:
            for other in words:
                self.assertEqual(times(one, other), shrunk(one + other))

    def test_backs_of_products(self):
        words = texts("abAB", 2)
        for one in words:
            for other in words:
                self.assertEqual(back(times(one, other)), times(back(other), back(one)))


class Refusals(unittest.TestCase):
    def test_what_is_no_word(self):
        for thing in ODD_THINGS + WRONG_TEXTS + HOSTILE_THINGS:
            for asked in (
                lambda: short(thing), lambda: back(thing), lambda: times(thing, "a"),
                lambda: times("a", thing), lambda: times("", thing), lambda: times(thing, ""),
                lambda: times(thing, thing), lambda: times(thing, None),
            ):
                with self.assertRaises(BadWord) as caught:
                    asked()
                self.assertIs(type(caught.exception), BadWord)

    def test_no_sign_falls_away_before_it_is_refused(self):
        for text in ("aA1", "1!", "a b B A", "\n\n", "aA\n"):
            for asked in (short, back):
                self.assertRaises(BadWord, asked, text)

    def test_no_word_is_not_changed(self):
        letters = ["a", "A"]
        for asked in (short, back):
            self.assertRaises(BadWord, asked, letters)
        self.assertRaises(BadWord, times, letters, letters)
        self.assertEqual(letters, ["a", "A"])


if __name__ == "__main__":
    unittest.main()
