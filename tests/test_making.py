import random
import unittest
from math import gcd

from gluewords.errors import BadWord
from gluewords.making import made_by
from gluewords.words import short
from oracle import (
    HOSTILE_THINGS, ODD_THINGS, WRONG_TEXTS, fewest_factors, multiplied, padded, products, random_row,
    short_texts, turned_word,
)


class Checks(unittest.TestCase):
    def made(self, row, word):
        """Ask, check what is told by multiplying it out, and return it."""
        before = list(row)
        making = made_by(row, word)
        self.assertEqual(row, before)
        self.assertIs(type(making), list, (row, word))
        for number in making:
            self.assertIs(type(number), int)
            self.assertNotEqual(number, 0)
            self.assertLessEqual(abs(number), len(row))
        self.assertEqual(multiplied(row, making), short(word), (row, word, making))
        return making

    def not_made(self, row, word):
        before = list(row)
        self.assertIsNone(made_by(row, word), (row, word))
        self.assertEqual(row, before)


class Making(Checks):
    def test_the_empty_row(self):
        for word in ["", "aA", "abBA", "zZ"]:
            self.assertEqual(self.made([], word), [])
        for word in ["a", "A", "ab", "abAB", "aaA"]:
            self.not_made([], word)

    def test_the_empty_word(self):
        for row in [["a"], ["ab", "ba"], ["", "aA"], ["aa", "aa"], ["abA", "aBA"]]:
            for word in ["", "bB", "abBA"]:
                self.made(row, word)

    def test_one_word(self):
        self.assertEqual(self.made(["ab"], "ab"), [1])
        self.assertEqual(self.made(["ab"], "BA"), [-1])
        self.assertEqual(self.made(["ab"], "abab"), [1, 1])
        self.assertEqual(self.made(["abA"], "abbbA"), [1, 1, 1])
        self.assertEqual(self.made(["abA"], "aBBA"), [-1, -1])
        self.assertEqual(self.made(["z"], "ZZZ"), [-1, -1, -1])

    def test_numbers_count_from_1_through_the_row(self):
        row = ["a", "b", "c", "d"]
        self.assertEqual(self.made(row, "adCB"), [1, 4, -3, -2])
        self.assertEqual(self.made(row, "dddA"), [4, 4, 4, -1])

    def test_not_made_though_its_letters_stand_in_the_row(self):
        for row, words in {
            ("ab",): ["a", "b", "ba", "aB", "aabb", "abb", "aba", "BAB", "AB"],
            ("aa",): ["a", "A", "aaa", "AAAAA"],
            ("abA",): ["b", "ab", "a", "bA", "Aba", "abbAb"],
            ("aa", "bb"): ["a", "ab", "abab", "aab", "aba", "aabbb"],
            ("abAB",): ["ab", "baBA" + "b", "BABa", "ABab", "aBAb"],
            ("aab", "b"): ["a", "ba", "aaa"],
        }.items():
            for word in words:
                self.not_made(list(row), word)

    def test_letters_that_the_row_has_not(self):
        for row in [[], ["a"], ["ab", "ba"], ["", "aa"]]:
            for word in ["c", "C", "zz", "aca", "abc", "cab", "caC", "aaz"]:
                self.not_made(row, word)
        self.made(["ab"], "cCab")
        self.made(["ab"], "zZaYybxX")

    def test_only_by_way_of_others(self):
        self.made(["aa", "aaa"], "a")
        self.made(["aaa", "aa"], "A")
        self.made(["aaaaaa", "aaaaaaaaaa", "aaaaaaaaaaaaaaa"], "a")
        self.made(["ab", "abb"], "a")
        self.made(["ab", "bc", "ca", "abc"], "c")
        self.made(["abA", "aab", "bAb"], "aab" + "aBA")
        self.made(["aab", "ab", "abc"], "cab")
        self.not_made(["aa", "aaaa"], "a")
        self.not_made(["aaaaaa", "aaaaaaaaaa"], "a")

    def test_rows_with_empty_words(self):
        self.assertEqual(self.made(["", "ab"], "ab"), [2])
        self.assertEqual(self.made(["", "", "ab", ""], "BA"), [-3])
        self.made([""], "")
        self.made(["", ""], "aA")
        self.not_made([""], "a")
        self.not_made(["", "", "aa"], "a")

    def test_rows_with_words_that_fall_away(self):
        self.assertEqual(self.made(["aA", "ab"], "ab"), [2])
        self.assertEqual(self.made(["ab", "abBA", "c"], "cab"), [3, 1])
        self.made(["aAbB"], "")
        self.not_made(["aA", "bB"], "a")
        self.not_made(["aA", "bB"], "ab")

    def test_rows_with_words_that_are_not_short(self):
        self.made(["acCb"], "ab")
        self.made(["aAb", "baAa"], "aB")
        self.made(["cabC", "cC"], "cababC")
        self.not_made(["cCab"], "c")

    def test_the_same_word_again_and_its_back(self):
        self.made(["ab", "ab"], "abab")
        self.made(["ab", "BA"], "abab")
        self.made(["ab", "BA", "ab", "cCab"], "BABABA")
        self.not_made(["ab", "ab"], "ba")
        self.not_made(["ab", "BA"], "a")
        self.not_made(["aa", "AA"], "a")

    def test_only_the_short_word_counts(self):
        self.assertEqual(self.made(["aa"], "abBa"), [1])
        self.assertEqual(self.made(["a"], "aAa"), [1])
        self.not_made(["aA", "b"], "aAa")
        self.not_made(["aAa"], "b" + "aA")


class AllShortWords(Checks):
    ROWS = [
        ["ab"], ["abA"], ["aa", "bb"], ["aab", "b"], ["aba", "bab"], ["aaa", "bAb"], ["aB", "bAA"],
        ["aa", "aaa", "bab"], ["abAB"], ["abab", "ba"], ["aaB", "abb", "A"], ["bb", "abA", "aa"],
        ["aab", "aaB"], ["abba", "ba", "bb"], ["", "aAab", "BA", "ab"],
    ]

    def test_made_just_where_it_is_a_product(self):
        words = short_texts("abAB", 5)
        for row in self.ROWS:
            products_of_row = products(row, 10)
            for word in words:
                if word in products_of_row:
                    self.made(row, word)
                else:
                    self.not_made(row, word)


class ShortestMakings(Checks):
    def test_no_making_is_shorter(self):
        chance = random.Random(1)
        for turn in range(60):
            letters = chance.choice(["aA", "abAB", "abcABC"])
            row = random_row(chance, chance.randint(1, 3), letters, chance.randint(1, 12))
            told = fewest_factors(row, 4)
            for word in chance.sample(sorted(told), min(30, len(told))):
                self.assertEqual(len(self.made(row, word)), told[word], (row, word))

    def test_by_the_shorter_way(self):
        self.assertEqual(self.made(["aa", "aaa", "a"], "a"), [3])
        self.assertEqual(len(self.made(["a", "aaaaa"], "aaaa")), 2)
        self.assertEqual(len(self.made(["a", "aaaaa", "ab"], "b")), 2)


class ManyRows(Checks):
    def rows(self, chance):
        for letters in ("aA", "abAB", "abcABC", "wxyzWXYZ"):
            for many in (1, 2, 3, 6, 11, 16):
                for total in (8, 30, 100):
                    yield letters, random_row(chance, many, letters, total)

    def test_the_words_of_the_row_and_their_backs(self):
        for letters, row in self.rows(random.Random(2)):
            for word in row:
                self.assertLessEqual(len(self.made(row, word)), 1)
                self.assertLessEqual(len(self.made(row, turned_word(word))), 1)

    def test_products_of_many(self):
        chance = random.Random(3)
        for letters, row in self.rows(chance):
            for many in (2, 5, 40):
                numbers = [chance.randint(1, len(row)) * chance.choice([1, -1]) for _ in range(many)]
                word = "".join(row[k - 1] if k > 0 else turned_word(row[-k - 1]) for k in numbers)
                making = self.made(row, padded(chance, word, letters, 9))
                self.assertLessEqual(len(making), many)

    def test_products_of_many_with_letters_that_the_row_has_not(self):
        chance = random.Random(4)
        for letters, row in self.rows(chance):
            word = "".join(chance.choice(row) for _ in range(7))
            self.made(row, padded(chance, word, "pqrsPQRS", 9))
            self.not_made(row, word + "p")
            self.not_made(row, "Q" + word + "q" + "r")

    def test_one_letter(self):
        chance = random.Random(5)
        for _ in range(40):
            row = ["a" * chance.randint(1, 30) for _ in range(chance.randint(1, 3))]
            common = gcd(*[len(word) for word in row])
            for many in chance.sample(range(1, 100), 5) + [common, 2 * common]:
                for word in ("a" * many, "A" * many):
                    if many % common == 0:
                        self.made(row, word)
                    else:
                        self.not_made(row, word)


class GreatRows(Checks):
    """Rows at the edge of what is promised, answered within the time of the tests."""

    def test_long_words(self):
        self.made(["a" * 51, "a" * 49], "a")
        self.made(["a" * 51, "a" * 49], "A" * 100)
        self.made(["a" * 99, "a"], "a" * 60)
        self.made(["a" * 52, "a" * 48], "aaaa")
        self.not_made(["a" * 52, "a" * 48], "a" * 50)
        self.made(["ab" * 50], "BA" * 100)
        self.made(["ab" * 24 + "ba" * 25, "a", "b"], "abAB" * 25)
        self.not_made(["ab" * 50], "ab" * 49)
        word = "a" * 49 + "b" + "A" * 50
        self.made([word], word + turned_word(word) + word)

    def test_sixteen_words(self):
        letters = "abcdefghijklmnop"
        row = [letters[at] + letters[(at + 1) % 16] for at in range(16)]
        self.made(row, "aB" + "bA")
        self.made(row, "".join(row))
        self.not_made(row, "a")
        self.made(row[:15] + ["p"], "a")
        self.made(row[:15] + ["p"], letters)

    def test_by_very_many_numbers(self):
        # "b" needs 10 of them, "c" 91 and "d" 820: there is no shorter way in such a row.
        row = ["a", "b" + "a" * 9, "c" + "b" * 9, "d" + "c" * 9]
        self.assertEqual(len(self.made(row, "b")), 10)
        self.assertEqual(len(self.made(row, "c")), 91)
        self.assertEqual(len(self.made(row, "D")), 820)
        self.assertEqual(len(self.made(row, "d" * 100)), 82000)
        self.not_made(row, "e")

    def test_not_by_way_of_many_where_few_do(self):
        letters = "abcdefghijkl"
        long_way = ["a"] + [letters[at] + letters[at - 1] * 4 for at in range(1, 12)]
        self.assertEqual(sum(len(word) for word in long_way), 56)
        self.assertEqual(len(long_way), 12)
        for row in (long_way + ["l", "k", "jl", "i"], ["l", "k", "jl", "i"] + long_way):
            for word in ("l", "lk", "Lj", "iLK" * 30):
                self.assertLessEqual(len(self.made(row, word)), 120)

    def test_a_word_of_very_many_letters(self):
        self.made(["aa", "aaa", "b"], "aab" * 1000)
        self.assertIsNone(made_by(["aa", "bb"], "aab" * 1000))


class TheAskersOwn(Checks):
    def test_a_told_list_may_be_changed(self):
        for row, word in [(["aa", "aaa"], "a"), (["ab"], "abab"), ([], ""), (["a"], ""), (["a"], "a")]:
            first = made_by(row, word)
            kept = list(first)
            first.append(7)
            first[:1] = [None]
            second = made_by(row, word)
            self.assertEqual(second, kept)
            self.assertIsNot(second, first)

    def test_a_row_may_be_changed(self):
        row = ["aa"]
        making = made_by(row, "aaaa")
        row[0] = "b"
        self.assertEqual(making, [1, 1])
        self.assertIsNone(made_by(row, "aaaa"))


class Refusals(unittest.TestCase):
    def refused(self, row, word):
        kept = list(row)
        with self.assertRaises(BadWord) as caught:
            made_by(row, word)
        self.assertIs(type(caught.exception), BadWord)
        self.assertEqual(len(row), len(kept))
        self.assertTrue(all(one is other for one, other in zip(row, kept)))

    def test_what_is_no_word(self):
        for thing in ODD_THINGS + WRONG_TEXTS + HOSTILE_THINGS:
            for row in ([thing], [thing, "a", "b"], ["a", thing, "b"], ["a", "b", thing], ["", thing]):
                for word in ("", "a", "c", thing, None):
                    self.refused(row, word)
            for row in ([], [""], ["a"], ["a", "b", "c"]):
                self.refused(row, thing)

    def test_no_sign_falls_away_before_it_is_refused(self):
        self.refused(["a", "b1" + "1B"], "a")
        self.refused(["a"], "a  ")


if __name__ == "__main__":
    unittest.main()
