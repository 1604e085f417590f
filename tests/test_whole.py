"""What the document promises over the whole program."""

import random
import unittest
from itertools import combinations

from gluewords.errors import BadWeb, BadWord
from gluewords.few import few
from gluewords.making import made_by
from gluewords.meets import meet, sides
from gluewords.webs import is_web, reads, web_of
from gluewords.words import back, is_word, short, times
from oracle import multiplied, padded, random_row, random_word, short_texts


def some_rows(chance, many):
    for turn in range(many):
        letters = chance.choice(["aA", "abAB", "abcABC", "mnopMNOP"])
        row = random_row(chance, chance.randint(0, 16), letters, chance.randint(0, 100))
        yield letters, row


def exchanged(chance, row):
    """The row after some steps that change no word that it makes."""
    row = list(row)
    for _ in range(12):
        here, there = chance.sample(range(len(row)), 2)
        step = chance.randrange(4)
        if step == 0:
            row[here], row[there] = row[there], row[here]
        elif step == 1:
            row[here] = back(row[here])
        elif step == 2:
            row[here] = times(row[here], row[there])
        else:
            row[here] = times(back(row[there]), row[here])
    return row


class MadeAndRead(unittest.TestCase):
    def check(self, row, word):
        web = web_of(row)
        making = made_by(row, word)
        self.assertIs(making is not None, reads(web, word), (row, word))
        if making is not None:
            self.assertEqual(multiplied(row, making), short(word))

    def test_all_rows_of_two_small_words(self):
        words = short_texts("abAB", 2)
        for row in combinations(words, 2):
            for word in short_texts("abAB", 3):
                self.check(list(row), word)

    def test_many_rows_and_words(self):
        chance = random.Random(20)
        read = 0
        for letters, row in some_rows(chance, 150):
            for _ in range(3):
                word = random_word(chance, letters, chance.randint(0, 12))
                self.check(row, word)
                read += reads(web_of(row), word)
            if row:
                word = times(chance.choice(row), back(chance.choice(row)))
                self.check(row, padded(chance, word, letters, 3))
                self.check(row, word + letters[0])
        self.assertGreater(read, 50)

    def test_the_few_words_are_made(self):
        for letters, row in some_rows(random.Random(21), 60):
            for word in few(web_of(row)):
                self.assertEqual(multiplied(row, made_by(row, word)), word)

    def test_the_words_are_made_by_the_few(self):
        for letters, row in some_rows(random.Random(22), 60):
            words = few(web_of(row))
            for word in row:
                self.assertEqual(multiplied(words, made_by(words, word)), short(word))

    def test_what_both_of_two_rows_make(self):
        chance = random.Random(23)
        for turn in range(30):
            one = random_row(chance, 3, "abAB", 10)
            other = random_row(chance, 3, "abAB", 10)
            for word in few(meet(web_of(one), web_of(other)))[:9]:
                self.assertEqual(multiplied(one, made_by(one, word)), word)
                self.assertEqual(multiplied(other, made_by(other, word)), word)


class TheSameWeb(unittest.TestCase):
    def test_rows_that_make_the_same(self):
        chance = random.Random(24)
        for letters, row in some_rows(chance, 80):
            if len(row) > 1:
                other = exchanged(chance, row)
                self.assertEqual(web_of(other), web_of(row))
                for word in other[:3]:
                    self.assertIsNotNone(made_by(row, word))
                for word in row[:3]:
                    self.assertIsNotNone(made_by(other, word))

    def test_one_more_word(self):
        chance = random.Random(25)
        same = 0
        for letters, row in some_rows(chance, 120):
            web = web_of(row)
            for _ in range(4):
                word = random_word(chance, letters, chance.randint(0, 8))
                if row and chance.random() < 0.4:
                    word = padded(chance, times(chance.choice(row), chance.choice(row)), letters, 2)
                read = reads(web, word)
                same += read
                self.assertIs(web_of(row + [word]) == web, read, (row, word))
                self.assertIs(web_of([word] + row) == web, read, (row, word))
        self.assertGreater(same, 100)

    def test_other_rows_have_other_webs(self):
        webs = {}
        for row in combinations(short_texts("abAB", 2), 2):
            webs.setdefault(str(web_of(list(row))), []).append(list(row))
        rows = [rows[0] for rows in webs.values()]
        for one, other in combinations(rows, 2):
            made = [made_by(one, word) for word in other] + [made_by(other, word) for word in one]
            self.assertIn(None, made, (one, other))
        for alike in webs.values():
            for row in alike:
                self.assertNotIn(None, [made_by(row, word) for word in alike[0]])


class NothingIsChanged(unittest.TestCase):
    ASKED = [
        (web_of, (["ab", "aab"],)), (made_by, (["aa", "aaa"], "a")),
        (few, ([(0, "a", 1), (1, "a", 0)],)), (reads, ([(0, "a", 0)], "aa")),
        (meet, ([(0, "a", 0)], [(0, "a", 1), (1, "a", 0)])), (sides, ([(0, "a", 0)], "a")),
        (is_web, ([(0, "a", 0)],)), (is_word, ("ab",)), (short, ("abB",)), (back, ("ab",)),
        (times, ("ab", "Bc")), (made_by, ([], "")), (few, ([],)), (web_of, ([],)), (meet, ([], [])),
    ]

    def test_what_is_handed_in_stays(self):
        for asked, told in self.ASKED:
            before = repr(told)
            asked(*told)
            self.assertEqual(repr(told), before)

    def test_what_is_told_is_not_changed_by_what_is_done_later(self):
        first = [asked(*told) for asked, told in self.ASKED]
        kept = [repr(answer) for answer in first]
        again = [asked(*told) for asked, told in self.ASKED]
        self.assertEqual([repr(answer) for answer in first], kept)
        self.assertEqual(again, first)
        for answer in first:
            if type(answer) is list:
                answer.append("anything")
                answer[0] = None
        self.assertEqual([repr(answer) for answer in again], kept)
        self.assertEqual([repr(asked(*told)) for asked, told in self.ASKED], kept)

    def test_true_and_false_are_no_whole_numbers(self):
        web = [(False, "a", True), (True, "a", False)]
        self.assertIs(is_web(web), False)
        for asked, told in ((few, (web,)), (reads, (web, "a")), (sides, (web, "a")), (meet, (web, []))):
            self.assertRaises(BadWeb, asked, *told)
        for asked, told in ((made_by, ([True], "")), (made_by, ([], True)), (web_of, ([False],)),
                            (short, (True,)), (sides, ([], False)), (reads, ([], False))):
            self.assertRaises(BadWord, asked, *told)
        self.assertIs(type(sides([], "")), int)
        self.assertIs(type(made_by(["a"], "a")[0]), int)


if __name__ == "__main__":
    unittest.main()
