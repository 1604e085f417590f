import random
import unittest
from itertools import islice, permutations

from gluewords.errors import BadWeb, BadWord
from gluewords.few import few
from gluewords.meets import meet, sides
from gluewords.webs import is_web, reads, web_of
from gluewords.words import back, times
from oracle import (
    HOSTILE_THINGS, ODD_THINGS, WRONG_TEXTS, fewest, named_as_found, random_row, random_whole_ties,
    rooms_of, short_texts,
)
from test_few import NO_WEBS

ALL_NO_WEBS = NO_WEBS + HOSTILE_THINGS + [thing for thing in ODD_THINGS if thing != []]

RING_OF_TWO = [(0, "a", 1), (1, "a", 0)]
RING_OF_THREE = [(0, "a", 1), (1, "a", 2), (2, "a", 0)]
EVEN_WORDS = [(0, "a", 1), (0, "b", 1), (1, "a", 0), (1, "b", 0)]


def ring(many, letters="a"):
    """The web of one ring of so many ties, with the letters again and again."""
    ties = [(room, letters[room % len(letters)], (room + 1) % many) for room in range(many)]
    return named_as_found(ties)


class Meeting(unittest.TestCase):
    def check(self, one, other, met):
        before = list(one), list(other)
        for told in (meet(one, other), meet(other, one)):
            self.assertEqual(told, met, (one, other))
            self.assertIs(type(told), list)
            self.assertIs(is_web(told), True)
        self.assertEqual((one, other), before)

    def test_with_itself(self):
        for row in ([], ["a"], ["aa"], ["abA"], ["ab", "ba"], ["aab", "bb", "abc"], ["abAB", "cc"]):
            web = web_of(row)
            self.check(web, web, web)
            self.check(web, list(web), web)

    def test_with_the_empty_web(self):
        for row in ([], ["a"], ["abA"], ["aab", "bb", "abc"]):
            self.check(web_of(row), [], [])

    def test_with_one_of_other_letters(self):
        self.check([(0, "a", 0)], [(0, "b", 0)], [])
        self.check(web_of(["ab", "ba"]), web_of(["cd", "cc"]), [])
        self.check(web_of(["ab", "c"]), web_of(["c", "de"]), [(0, "c", 0)])

    def test_with_one_that_reads_all_words(self):
        for row in ([], ["a"], ["abA"], ["aab", "bb"]):
            self.check(web_of(row), web_of(["a", "b"]), web_of(row))
            self.check(web_of(row), [(0, letter, 0) for letter in "abxyz"], web_of(row))

    def test_rings(self):
        self.check(RING_OF_TWO, RING_OF_THREE, web_of(["aaaaaa"]))
        self.check(web_of(["aaaa"]), web_of(["aaaaaa"]), web_of(["a" * 12]))
        self.check(web_of(["aa"]), web_of(["aaaaaa"]), web_of(["aaaaaa"]))
        self.check(web_of(["a" * 9]), web_of(["a" * 8]), web_of(["a" * 72]))
        self.check(web_of(["abab"]), web_of(["ababab"]), web_of(["ab" * 6]))
        self.check(web_of(["abab"]), web_of(["aba"]), [])

    def test_no_dead_ends_stay(self):
        # Both lead on by a, and by ab, and then not by the same letters.
        self.check(web_of(["abA"]), web_of(["acA"]), [])
        self.check(web_of(["abcBA"]), web_of(["abdBA"]), [])
        self.check(web_of(["abcBA", "d"]), web_of(["abdBA", "d"]), [(0, "d", 0)])
        self.check(web_of(["abA", "aacAA"]), web_of(["abA", "aadAA"]), web_of(["abA"]))
        self.check(web_of(["abA", "bcB"]), web_of(["abA", "bdB"]), web_of(["abA"]))

    def test_dead_ends_that_fork(self):
        self.check(web_of(["abcBA", "aacAA"]), web_of(["abdBA", "aadAA"]), [])
        self.check(
            web_of(["abcBA", "aacAA", "bb"]), web_of(["abdBA", "aadAA", "bb"]), web_of(["bb"]))

    def test_room_0_may_have_one_end(self):
        self.check(web_of(["abbA"]), web_of(["abbbA"]), web_of(["a" + "b" * 6 + "A"]))

    def test_the_rooms_are_numbered_as_found(self):
        self.check(web_of(["ba"]), web_of(["ba", "ab"]), [(0, "b", 1), (1, "a", 0)])
        self.check(web_of(["aa", "b"]), EVEN_WORDS, web_of(["aa", "bb", "baaB"]))

    def test_rooms_that_are_not_come_to_at_once(self):
        # The webs meet in rooms that are not come to from both rooms 0 at once.
        self.check(web_of(["abA", "cbbC"]), web_of(["acA", "bb"]), [])


class ReadByBoth(unittest.TestCase):
    def test_each_word_is_read_just_where_both_read_it(self):
        chance = random.Random(10)
        words = short_texts("abAB", 6)
        for turn in range(40):
            one = web_of(random_row(chance, chance.randint(1, 4), "abAB", chance.randint(2, 12)))
            other = web_of(random_row(chance, chance.randint(1, 4), "abAB", chance.randint(2, 12)))
            met = meet(one, other)
            self.assertIs(is_web(met), True)
            for word in words:
                both = reads(one, word) and reads(other, word)
                self.assertIs(reads(met, word), both, (one, other, word))

    def test_the_few_words_of_the_meeting_are_read_by_both(self):
        chance = random.Random(11)
        for turn in range(60):
            letters = chance.choice(["aA", "abAB", "abcABC"])
            one = web_of(random_row(chance, chance.randint(1, 6), letters, chance.randint(2, 40)))
            other = web_of(random_row(chance, chance.randint(1, 6), letters, chance.randint(2, 40)))
            met = meet(one, other)
            self.assertIs(is_web(met), True)
            self.assertEqual(meet(other, one), met)
            for word in fewest(met) if len(met) < 200 else few(met):
                self.assertIs(reads(one, word) and reads(other, word), True)

    def test_products_read_by_both(self):
        chance = random.Random(12)
        for turn in range(60):
            letters = chance.choice(["abAB", "abcABC"])
            common = random_row(chance, 3, letters, 20)
            one = web_of(common + random_row(chance, 2, letters, 20))
            other = web_of(random_row(chance, 2, letters, 20) + common)
            met = meet(one, other)
            for _ in range(10):
                word = ""
                for _ in range(chance.randint(1, 6)):
                    part = chance.choice(common)
                    word = times(word, chance.choice([part, back(part)]))
                self.assertIs(reads(met, word), True)
            self.assertEqual(meet(met, web_of(common)), web_of(common))

    def test_three_webs_in_any_order(self):
        chance = random.Random(13)
        for turn in range(20):
            webs = [web_of(random_row(chance, 3, "abAB", 9)) for _ in range(3)]
            met = [meet(meet(one, two), three) for one, two, three in permutations(webs)]
            self.assertEqual(met, [met[0]] * 6)

    def test_whole_webs_meet_in_whole_webs(self):
        chance = random.Random(14)
        for turn in range(30):
            one, other = [named_as_found(random_whole_ties(chance, chance.randint(1, 5), "ab"))
                          for _ in range(2)]
            met = meet(one, other)
            self.assertLessEqual(sides(met, "ab"), sides(one, "ab") * sides(other, "ab"))
            self.assertEqual(sides(met, "ab") % sides(one, "ab"), 0)
            self.assertEqual(sides(met, "ab") % sides(other, "ab"), 0)

    def test_as_many_ties_as_there_may_be(self):
        met = meet(ring(400), ring(399))
        self.assertEqual(len(met), 400 * 399)
        self.assertIs(is_web(met), True)
        self.assertEqual(len(meet(ring(400, "ab"), ring(398, "ab"))), 200 * 398)
        self.assertEqual(meet(ring(400, "ab"), ring(400, "ba")), [])
        self.assertEqual(meet(ring(400), ring(200)), ring(400))


class Sides(unittest.TestCase):
    def check(self, web, letters, many):
        before = list(web)
        orders = ["".join(order) for order in islice(permutations(letters), 24)]
        for order in orders + [letters[::-1]]:
            told = sides(web, order)
            self.assertEqual(told, many, (web, order))
            self.assertIs(type(told), type(many))
        self.assertEqual(web, before)

    def test_the_empty_web(self):
        self.check([], "", 1)
        for letters in ("a", "z", "ab", "xyz", "abcdefghijklmnopqrstuvwxyz"):
            self.check([], letters, None)

    def test_one_room(self):
        self.check([(0, "a", 0)], "a", 1)
        self.check([(0, "a", 0), (0, "b", 0), (0, "z", 0)], "abz", 1)
        self.check([(0, "a", 0)], "ab", None)
        self.check([(0, "b", 0)], "ab", None)
        alphabet = "abcdefghijklmnopqrstuvwxyz"
        self.check([(0, letter, 0) for letter in alphabet], alphabet, 1)

    def test_whole_webs(self):
        self.check(RING_OF_TWO, "a", 2)
        self.check(RING_OF_THREE, "a", 3)
        self.check(EVEN_WORDS, "ab", 2)
        self.check([(0, "a", 1), (0, "b", 0), (1, "a", 0), (1, "b", 1)], "ab", 2)
        self.check(
            [(0, "a", 1), (0, "b", 0), (1, "a", 2), (1, "b", 2), (2, "a", 0), (2, "b", 1)], "ab", 3)
        self.check(ring(400), "a", 400)

    def test_not_whole_for_one_letter_more(self):
        self.check(RING_OF_TWO, "ab", None)
        self.check(RING_OF_THREE, "az", None)
        self.check(EVEN_WORDS, "abc", None)
        self.check(EVEN_WORDS, "abcdef", None)

    def test_not_whole(self):
        self.check([(0, "a", 1), (1, "b", 0)], "ab", None)
        self.check([(0, "a", 1), (0, "b", 1)], "ab", None)
        self.check([(0, "a", 1), (1, "b", 1)], "ab", None)
        self.check([(0, "a", 1), (0, "b", 0), (1, "a", 0)], "ab", None)
        self.check([(0, "a", 1), (1, "a", 0), (1, "b", 1)], "ab", None)
        self.check([(0, "a", 1), (0, "b", 1), (1, "a", 0)], "ab", None)
        self.check([(0, "b", 0), (1, "a", 0), (1, "b", 1)], "ab", None)

    def test_a_tie_missing(self):
        chance = random.Random(15)
        for turn in range(40):
            letters = "abc"[:chance.randint(2, 3)]
            whole = named_as_found(random_whole_ties(chance, chance.randint(1, 6), letters))
            self.check(whole, letters, len(rooms_of(whole)))
            at = chance.randrange(len(whole))
            left = named_as_found(whole[:at] + whole[at + 1:])
            if is_web(left) and len(rooms_of(left)) == len(rooms_of(whole)):
                self.check(left, letters, None)

    def test_as_many_sides_as_the_words_fall_into(self):
        chance = random.Random(16)
        for turn in range(40):
            web = named_as_found(random_whole_ties(chance, chance.randint(1, 6), "ab"))
            found = []
            for word in short_texts("abAB", 5):
                if not any(reads(web, times(word, back(other))) for other in found):
                    found.append(word)
            self.assertEqual(sides(web, "ab"), len(found), web)

    def test_more_sides_where_the_web_is_not_whole(self):
        for row in (["aa", "bb"], ["ab"], ["abA", "b"]):
            web = web_of(row)
            self.assertIsNone(sides(web, "ab"))
            found = []
            for word in short_texts("abAB", 5):
                if not any(reads(web, times(word, back(other))) for other in found):
                    found.append(word)
            self.assertGreater(len(found), 2 * len(rooms_of(web)))

    def test_of_rows(self):
        self.check(web_of(["aa", "ab", "ba"]), "ab", 2)
        self.check(web_of(["aa", "b", "aba"]), "ab", 2)
        self.check(web_of(["aaa", "b", "abA", "aabAA"]), "ab", 3)
        self.check(web_of(["aaa", "b", "abA"]), "ab", None)
        self.check(web_of(["a", "b", "ab"]), "ab", 1)

    def test_many_ties(self):
        chance = random.Random(17)
        web = named_as_found(random_whole_ties(chance, 100, "abcd"))
        self.assertEqual(sides(web, "dbca"), len(rooms_of(web)))


class TheAskersOwn(unittest.TestCase):
    def test_a_told_web_may_be_changed(self):
        for one, other in ((RING_OF_TWO, RING_OF_TWO), (RING_OF_TWO, []), ([], [])):
            first = meet(one, other)
            kept = list(first)
            self.assertIsNot(first, one)
            self.assertIsNot(first, other)
            first.append("anything")
            first[0] = (0, "z", 0)
            self.assertEqual(meet(one, other), kept)
        self.assertEqual(RING_OF_TWO, [(0, "a", 1), (1, "a", 0)])

    def test_kinds(self):
        for tie in meet(RING_OF_TWO, RING_OF_THREE):
            self.assertIs(type(tie), tuple)
            self.assertEqual([type(part) for part in tie], [int, str, int])


class Refusals(unittest.TestCase):
    def refused(self, refusal, asked, *told):
        with self.assertRaises(refusal) as caught:
            asked(*told)
        self.assertIs(type(caught.exception), refusal)

    def test_meet(self):
        for thing in ALL_NO_WEBS:
            self.refused(BadWeb, meet, thing, [])
            self.refused(BadWeb, meet, [], thing)
            self.refused(BadWeb, meet, thing, RING_OF_TWO)
            self.refused(BadWeb, meet, RING_OF_TWO, thing)
            self.refused(BadWeb, meet, thing, thing)
            self.refused(BadWeb, meet, thing, None)

    def test_sides_of_no_web(self):
        for thing in ALL_NO_WEBS:
            for letters in ("", "a", "ab", "A", "aa", None, 1, ["a"], thing):
                self.refused(BadWeb, sides, thing, letters)

    def test_sides_of_no_letters(self):
        wrong = ODD_THINGS + HOSTILE_THINGS + WRONG_TEXTS + [
            "aa", "aba", "A", "aA", "aB", "Z", "ab ", "a,b", "abb", "zaz",
            ["a", "b"], ("a", "b"), {"a", "b"}, {"a": 1, "b": 2}, b"ab",
        ]
        for web in ([], [(0, "a", 0)], RING_OF_TWO, EVEN_WORDS, [(0, "a", 1), (1, "b", 1)]):
            for letters in wrong:
                self.refused(BadWord, sides, web, letters)

    def test_a_letter_of_the_web_not_among_them(self):
        for web, letters in (
            ([(0, "a", 0)], ""), ([(0, "a", 0)], "b"), (RING_OF_TWO, "bcd"), (EVEN_WORDS, "a"),
            (EVEN_WORDS, "b"), (EVEN_WORDS, "bc"), ([(0, "a", 1), (1, "b", 1)], "a"),
            ([(0, "a", 1), (1, "b", 1)], "b"), ([(0, "a", 1), (1, "b", 0)], "acdefg"),
        ):
            self.refused(BadWord, sides, web, letters)

    def test_letters_are_not_changed(self):
        letters = ["a", "b"]
        self.refused(BadWord, sides, EVEN_WORDS, letters)
        self.assertEqual(letters, ["a", "b"])


if __name__ == "__main__":
    unittest.main()
