import random
import unittest

from gluewords.errors import BadWord
from gluewords.webs import reads, web_of
from gluewords.words import back, times
from oracle import (
    HOSTILE_THINGS, ODD_THINGS, WRONG_TEXTS, generators, random_row, short_texts, texts,
)

WEBS = [
    [], [(0, "a", 0)], [(0, "a", 1), (1, "b", 1)], [(0, "a", 1), (1, "a", 2), (2, "a", 0)],
    [(0, "a", 1), (0, "b", 0), (1, "a", 0)],
]


class Reading(unittest.TestCase):
    def check(self, web, read, unread):
        before = list(web)
        for word in read:
            self.assertIs(reads(web, word), True, word)
        for word in unread:
            self.assertIs(reads(web, word), False, word)
        self.assertEqual(web, before)

    def test_the_empty_word(self):
        for web in WEBS + [web_of(["abcABC", "xyz"])]:
            self.check(web, ["", "aA", "zZ", "abBA", "qwWQ"], [])

    def test_the_empty_web(self):
        self.check([], ["", "abBA"], ["a", "A", "z", "ab", "abAB"])

    def test_a_loop(self):
        self.check([(0, "a", 0)], ["a", "A", "aaa", "AA", "abBa"], ["b", "B", "aab", "ba", "z"])

    def test_a_loop_behind_a_tie(self):
        self.check(
            [(0, "a", 1), (1, "b", 1)],
            ["abA", "aBA", "abbbA", "abAaBBA", "abAabA"],
            ["a", "A", "ab", "b", "bA", "aba", "aa", "AbA", "Aba", "acA"],
        )

    def test_a_ring(self):
        self.check(
            [(0, "a", 1), (1, "a", 2), (2, "a", 0)],
            ["aaa", "AAA", "aaaaaa", "aaaAAAaaa", "abBaa"],
            ["a", "aa", "A", "AA", "aaaa", "aab", "b", "aaba", "baaaB"],
        )

    def test_both_words_and_ways(self):
        self.check(
            [(0, "a", 1), (0, "b", 1)],
            ["aB", "bA", "aBaB", "bAbA"],
            ["ab", "ba", "a", "b", "A", "Ab", "Ba", "aa"],
        )

    def test_letters_that_the_web_has_not(self):
        for web in WEBS:
            self.check(web, ["cC", "zdDZ"], ["c", "C", "z", "acA", "cab", "abc", "caC"])

    def test_only_the_short_word_counts(self):
        # The letters of the long word leave the web where those of the short one do not.
        self.check([(0, "a", 1), (1, "a", 0)], ["abBa", "bBaa", "aacC", "Aaaa"], ["aAa", "abBAa"])

    def test_each_text_reads_as_its_short_word(self):
        web = web_of(["aab", "bb", "aBa"])
        read = {word for word in short_texts("abAB", 4) if reads(web, word)}
        for word in texts("abAB", 4):
            self.assertIs(reads(web, word), times("", word) in read, word)

    def test_words_of_the_row_their_backs_and_products(self):
        chance = random.Random(3)
        for turn in range(60):
            row = random_row(chance, chance.randint(1, 16), "abcABC", 100)
            web = web_of(row)
            made = ""
            for _ in range(6):
                word = chance.choice(row)
                word = back(word) if chance.random() < 0.5 else word
                made = times(made, word)
                self.assertIs(reads(web, word), True)
                self.assertIs(reads(web, back(made)), True)
                self.assertIs(reads(web, made), True)
            for word in generators(web):
                self.assertIs(reads(web, word), True)

    def test_a_way_to_another_room_is_not_read(self):
        web = web_of(["aaaa", "abbA", "bab"])
        leads = {}
        for first, letter, second in web:
            leads[first, letter] = second
            leads[second, letter.upper()] = first
        for word in short_texts("abAB", 5):
            room = 0
            for letter in word:
                room = leads.get((room, letter), "nowhere")
            self.assertIs(reads(web, word), room == 0, word)


class Refusals(unittest.TestCase):
    def test_no_words(self):
        for web in WEBS:
            for thing in ODD_THINGS + WRONG_TEXTS + HOSTILE_THINGS:
                with self.assertRaises(BadWord) as caught:
                    reads(web, thing)
                self.assertIs(type(caught.exception), BadWord)

    def test_no_word_although_its_letters_would_leave_the_web(self):
        for web in WEBS:
            for word in ("q1", "cc ", "aaz\n"):
                self.assertRaises(BadWord, reads, web, word)


if __name__ == "__main__":
    unittest.main()
