import random
import unittest

from gluewords.errors import BadWeb
from gluewords.few import few
from gluewords.making import made_by
from gluewords.webs import is_web, reads, web_of
from gluewords.words import short
from oracle import (
    HOSTILE_THINGS, ODD_THINGS, fewest, named_as_found, random_row, random_whole_ties, rooms_of,
)

NO_WEBS = [
    [(0, "a", 1)], [(1, "a", 1)], [(0, "b", 0), (0, "a", 0)], [(0, "a", 0), (0, "a", 0)],
    [(0, "A", 0)], [(0, "ab", 0)], [[0, "a", 0]], ((0, "a", 0),), [(0, "a", 2), (2, "a", 0)],
    [(0, "a", 0), (0, "a", 1), (1, "b", 1)], [(0, "a", True), (True, "a", 0)], [(False, "a", 0)],
    [(0, "a", -1), (-1, "a", 0)], "a", {(0, "a", 0): 1}, [()], [None], [""],
]


class FewWords(unittest.TestCase):
    def check(self, web, words):
        before = list(web)
        told = few(web)
        self.assertEqual(told, words, web)
        self.assertIs(type(told), list)
        self.assertEqual(web, before)
        self.assertEqual(len(told), len(web) - (len(rooms_of(web)) - 1))
        self.assertEqual([short(word) for word in told], told)
        self.assertEqual(web_of(told), web)
        for at in range(len(told)):
            rest = told[:at] + told[at + 1:]
            self.assertIs(reads(web_of(rest), told[at]), False, (web, told[at]))
            self.assertIsNone(made_by(rest, told[at]))

    def test_the_empty_web(self):
        self.check([], [])

    def test_one_room(self):
        self.check([(0, "a", 0)], ["a"])
        self.check([(0, "z", 0)], ["z"])
        self.check([(0, "a", 0), (0, "c", 0), (0, "x", 0)], ["a", "c", "x"])

    def test_a_room_found_along_a_tie(self):
        self.check([(0, "a", 1), (1, "a", 0)], ["aa"])
        self.check([(0, "a", 1), (1, "b", 0)], ["ab"])
        self.check([(0, "a", 1), (0, "b", 1)], ["bA"])
        self.check([(0, "a", 1), (1, "b", 1)], ["abA"])
        self.check([(0, "b", 1), (1, "a", 1)], ["baB"])
        self.check([(0, "a", 1), (0, "b", 0), (1, "a", 0), (1, "b", 1)], ["b", "aa", "abA"])

    def test_a_room_found_back_along_a_tie(self):
        self.check([(1, "a", 0), (1, "b", 1)], ["Aba"])
        self.check([(1, "a", 0), (1, "b", 0)], ["Ab"])
        self.check([(0, "b", 0), (1, "a", 0), (1, "b", 1)], ["b", "Aba"])

    def test_rooms_found_either_way(self):
        self.check([(0, "a", 1), (1, "a", 2), (2, "a", 0)], ["aaa"])
        self.check([(0, "a", 1), (0, "b", 2), (1, "a", 0), (2, "b", 0)], ["aa", "bb"])
        self.check([(1, "a", 0), (2, "b", 1), (2, "c", 2)], ["ABcba"])
        self.check([(0, "a", 1), (2, "b", 1), (2, "c", 2)], ["aBcbA"])
        self.check([(0, "a", 1), (1, "a", 3), (2, "a", 0), (3, "b", 2)], ["aaba"])

    def test_the_way_is_that_of_the_numbering(self):
        # Room 3 lies beside rooms 1 and 2: it is found from room 1, be its letter the later one.
        self.check([(0, "a", 1), (0, "b", 2), (1, "c", 3), (2, "d", 3)], ["bdCA"])
        self.check([(0, "a", 1), (0, "b", 2), (1, "z", 3), (2, "a", 3)], ["baZA"])
        # Room 1 lies beside room 0 by two ties: a comes before b, be it back along a later tie.
        self.check([(0, "b", 1), (1, "a", 0)], ["ba"])
        self.check([(0, "b", 1), (0, "c", 1), (1, "a", 0)], ["ba", "ca"])

    def test_in_the_order_of_the_ties(self):
        web = [(0, "a", 0), (0, "b", 1), (1, "a", 1), (1, "b", 0), (1, "c", 1)]
        self.check(web, ["a", "baB", "bb", "bcB"])

    def test_the_webs_of_many_rows(self):
        chance = random.Random(6)
        for turn in range(120):
            letters = chance.choice(["aA", "abAB", "abcABC", "xyzXYZ"])
            row = random_row(chance, chance.randint(0, 16), letters, chance.randint(0, 60))
            web = web_of(row)
            self.check(web, fewest(web))
            self.assertLessEqual(len(few(web)), len(row))

    def test_whole_webs(self):
        chance = random.Random(7)
        for turn in range(20):
            web = named_as_found(random_whole_ties(chance, chance.randint(1, 6), "abc"[:1 + turn % 3]))
            self.check(web, fewest(web))

    def test_as_many_ties_as_there_may_be(self):
        chance = random.Random(8)
        web = named_as_found(random_whole_ties(chance, 100, "abcd"))
        self.assertIs(is_web(web), True)
        words = few(web)
        self.assertEqual(words, fewest(web))
        self.assertEqual(len(words), len(web) - len(rooms_of(web)) + 1)
        self.assertEqual(web_of(words), web)

    def test_a_long_ring(self):
        ring = named_as_found([(room, "a", (room + 1) % 400) for room in range(400)])
        self.assertEqual(few(ring), ["a" * 400])


class TheAskersOwn(unittest.TestCase):
    def test_a_told_list_may_be_changed(self):
        for web in ([], [(0, "a", 0)], [(0, "a", 1), (1, "a", 0), (1, "b", 1)]):
            first = few(web)
            kept = list(first)
            first.append("zz")
            first[0] = ""
            self.assertEqual(few(web), kept)
            self.assertIsNot(few(web), few(web))

    def test_a_web_may_be_changed(self):
        web = [(0, "a", 0)]
        words = few(web)
        web[0] = (0, "b", 0)
        self.assertEqual(words, ["a"])
        self.assertEqual(few(web), ["b"])


class Refusals(unittest.TestCase):
    def test_what_is_no_web(self):
        for thing in NO_WEBS + HOSTILE_THINGS + [thing for thing in ODD_THINGS if thing != []]:
            with self.assertRaises(BadWeb) as caught:
                few(thing)
            self.assertIs(type(caught.exception), BadWeb)

    def test_what_is_no_web_is_not_changed(self):
        for thing in NO_WEBS:
            before = str(thing)
            self.assertRaises(BadWeb, few, thing)
            self.assertEqual(str(thing), before)


if __name__ == "__main__":
    unittest.main()
