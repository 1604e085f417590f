import random
import unittest

from gluewords.errors import BadWord
from gluewords.webs import is_web, reads, web_of
from gluewords.words import back, times
from oracle import (
    HOSTILE_THINGS, ODD_THINGS, WRONG_TEXTS, generators, products, random_row, short_texts,
)

RING_OF_THREE = [(0, "a", 1), (1, "a", 2), (2, "a", 0)]


class KnownWebs(unittest.TestCase):
    def check(self, row, web):
        before = list(row)
        self.assertEqual(web_of(row), web, row)
        self.assertEqual(row, before)

    def test_the_empty_word_alone(self):
        for row in ([], [""], ["", ""], ["aA"], ["abBA", "", "Zz"], ["abBA"] * 3):
            self.check(row, [])

    def test_one_word(self):
        self.check(["a"], [(0, "a", 0)])
        self.check(["A"], [(0, "a", 0)])
        self.check(["ab"], [(0, "a", 1), (1, "b", 0)])
        self.check(["BA"], [(0, "a", 1), (1, "b", 0)])
        self.check(["ba"], [(0, "b", 1), (1, "a", 0)])
        self.check(["aB"], [(0, "a", 1), (0, "b", 1)])
        self.check(["Ab"], [(1, "a", 0), (1, "b", 0)])
        self.check(["abA"], [(0, "a", 1), (1, "b", 1)])
        self.check(["aBA"], [(0, "a", 1), (1, "b", 1)])
        self.check(["Aba"], [(1, "a", 0), (1, "b", 1)])
        self.check(["aa"], [(0, "a", 1), (1, "a", 0)])
        self.check(["aaa"], RING_OF_THREE)
        self.check(["AAA"], RING_OF_THREE)
        self.check(["aaaa"], [(0, "a", 1), (1, "a", 3), (2, "a", 0), (3, "a", 2)])
        self.check(["zY"], [(0, "y", 1), (0, "z", 1)])
        self.check(["abAB"], [(0, "a", 1), (0, "b", 2), (1, "b", 3), (2, "a", 3)])

    def test_words_that_are_not_short(self):
        self.check(["abBcCA"], [])
        self.check(["bBaaaAcC"], [(0, "a", 1), (1, "a", 0)])
        self.check(["aabBbBa", "cC"], RING_OF_THREE)

    def test_two_words(self):
        self.check(["aa", "aaa"], [(0, "a", 0)])
        self.check(["a", "b"], [(0, "a", 0), (0, "b", 0)])
        self.check(["b", "a"], [(0, "a", 0), (0, "b", 0)])
        self.check(["aa", "b"], [(0, "a", 1), (0, "b", 0), (1, "a", 0)])
        self.check(["ab", "aB"], [(0, "a", 1), (0, "b", 1), (1, "b", 0)])
        self.check(["aaaa", "aaaaaa"], [(0, "a", 1), (1, "a", 0)])
        self.check(["aaa", "AA"], [(0, "a", 0)])
        self.check(["ab", "b"], [(0, "a", 0), (0, "b", 0)])
        self.check(["aba", "b"], [(0, "a", 1), (0, "b", 0), (1, "b", 2), (2, "a", 0)])

    def test_words_again(self):
        self.check(["aaa", "aaa"], RING_OF_THREE)
        self.check(["aaa", "AAA"], RING_OF_THREE)
        self.check(["aaa", "aaaaaa", "", "aA"], RING_OF_THREE)
        self.check(["ab", "BA", "ab"], [(0, "a", 1), (1, "b", 0)])

    def test_three_words(self):
        self.check(["aa", "ab", "ba"], [(0, "a", 1), (0, "b", 1), (1, "a", 0), (1, "b", 0)])
        self.check(
            ["aa", "b", "aba"],
            [(0, "a", 1), (0, "b", 0), (1, "a", 0), (1, "b", 1)],
        )

    def test_many_letters(self):
        letters = "abcdefghijklmnop"
        self.check(list(letters), [(0, letter, 0) for letter in letters])
        self.check(list(letters.upper()), [(0, letter, 0) for letter in letters])

    def test_long_words(self):
        self.check(["a" * 50 + "b" + "A" * 49], web_of(["a" * 49 + "B" + "A" * 50]))
        self.assertEqual(len(web_of(["a" * 100])), 100)
        self.check(["a" * 60, "a" * 40], web_of(["a" * 20]))
        self.check(["a" * 51, "a" * 49], [(0, "a", 0)])
        self.check(["ab" * 50], web_of(["BA" * 50]))
        self.assertEqual(len(web_of(["ab" * 50])), 100)


class JustWhatTheRowMakes(unittest.TestCase):
    ROWS = [
        [], ["ab"], ["abA"], ["aa", "bb"], ["aab", "b"], ["aba", "bab"], ["aaa", "bAb"], ["aB", "bAA"],
        ["aa", "aaa", "bab"], ["abAB"], ["abab", "ba"], ["aaB", "abb", "A"], ["bb", "abA", "aa"],
        ["aab", "aaB"], ["abba", "ba", "bb"],
    ]

    def test_all_short_words(self):
        words = short_texts("abAB", 5)
        for row in self.ROWS:
            made = products(row, 10)
            web = web_of(row)
            for word in words:
                self.assertIs(reads(web, word), word in made, (row, word))

    def test_what_the_web_reads_is_made(self):
        for row in self.ROWS:
            made = products(row, 10)
            for word in generators(web_of(row)):
                self.assertIn(word, made, row)

    def test_same_web_just_where_the_same_is_made(self):
        rows = [[one, other] for one in short_texts("abAB", 2) for other in short_texts("aA", 3)]
        webs = [web_of(row) for row in rows]
        made = [products(row, 9) for row in rows]
        for one in range(len(rows)):
            for other in range(one):
                same = (all(word in made[one] for word in rows[other])
                        and all(word in made[other] for word in rows[one]))
                self.assertEqual(webs[one] == webs[other], same, (rows[one], rows[other]))


class TheSameWeb(unittest.TestCase):
    def test_rows_that_make_the_same(self):
        chance = random.Random(7)
        for turn in range(150):
            letters = chance.choice(["aA", "abAB", "abcABC", "xyzXYZ", "azAZ"])
            row = random_row(chance, chance.randint(1, 16), letters, chance.randint(0, 100))
            web = web_of(row)
            self.assertIs(is_web(web), True, row)
            for word in row:
                self.assertIs(reads(web, word), True, row)
            self.assertEqual(web_of(row[::-1]), web)
            self.assertEqual(web_of(chance.sample(row, len(row))), web)
            self.assertEqual(web_of([back(word) for word in row]), web)
            self.assertEqual(web_of(row + [row[0], back(row[-1]), ""]), web)
            self.assertEqual(web_of(generators(web)), web)
            other = list(row)
            for _ in range(4):
                here, there = chance.randrange(len(row)), chance.randrange(len(row))
                if here != there:
                    told = back(other[there]) if chance.random() < 0.5 else other[there]
                    other[here] = chance.choice([times(other[here], told), times(told, other[here])])
            self.assertEqual(web_of(other), web, (row, other))

    def test_as_many_words_and_letters_as_there_may_be(self):
        chance = random.Random(9)
        for turn in range(30):
            row = random_row(chance, 16, "abcdABCD", 100)
            web = web_of(row)
            self.assertIs(is_web(web), True)
            self.assertLessEqual(len(generators(web)), 16)
            self.assertEqual(web_of(generators(web)), web)


class TheAskersOwn(unittest.TestCase):
    def test_the_row_stays(self):
        row = ["abBA", "aa", "", "aa", "BA"]
        before = list(row)
        web_of(row)
        self.assertEqual(row, before)

    def test_a_told_web_may_be_changed(self):
        for row in ([], ["aa"], ["abA", "b"]):
            first = web_of(row)
            kept = list(first)
            first.append("anything")
            del first[:1]
            second = web_of(row)
            self.assertEqual(second, kept)
            self.assertIsNot(second, first)

    def test_a_changed_row_does_not_change_the_web(self):
        row = ["aa"]
        web = web_of(row)
        row.append("aaa")
        web_of(row)
        self.assertEqual(web, [(0, "a", 1), (1, "a", 0)])

    def test_kinds(self):
        web = web_of(["abA", "bbb"])
        self.assertIs(type(web), list)
        for tie in web:
            self.assertEqual([type(part) for part in tie], [int, str, int])
            self.assertIs(type(tie), tuple)


class Refusals(unittest.TestCase):
    def test_no_word_in_the_row(self):
        for thing in ODD_THINGS + WRONG_TEXTS + HOSTILE_THINGS:
            for row in ([thing], [thing, "a", "b"], ["a", thing, "b"], ["a", "b", thing],
                        ["", thing], [thing, thing]):
                many = len(row)
                with self.assertRaises(BadWord) as caught:
                    web_of(row)
                self.assertIs(type(caught.exception), BadWord)
                self.assertEqual(len(row), many)


if __name__ == "__main__":
    unittest.main()
