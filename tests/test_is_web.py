import unittest
from itertools import combinations, permutations, product

from gluewords.errors import BadWeb
from gluewords.webs import is_web, reads, web_of
from oracle import HOSTILE_THINGS, ODD_THINGS, generators, short_texts

WEBS = [
    [],
    [(0, "a", 0)],
    [(0, "z", 0)],
    [(0, "a", 0), (0, "b", 0)],
    [(0, "a", 1), (1, "a", 0)],
    [(0, "a", 1), (1, "b", 0)],
    [(0, "a", 1), (1, "b", 1)],
    [(0, "b", 1), (1, "a", 1)],
    [(1, "a", 0), (1, "b", 1)],
    [(0, "a", 1), (0, "b", 1)],
    [(0, "a", 1), (1, "a", 2), (2, "a", 0)],
    [(0, "a", 1), (0, "b", 2), (1, "a", 0), (2, "b", 0)],
    [(1, "a", 0), (2, "b", 1), (2, "c", 2)],
]

NO_WEBS = {
    "two ties with one letter begin in room 0": [(0, "a", 0), (0, "a", 1), (1, "b", 1)],
    "two ties with one letter begin in room 1": [(0, "a", 1), (1, "b", 0), (1, "b", 1)],
    "two ties with one letter end in room 0": [(0, "a", 0), (1, "a", 0), (1, "b", 1)],
    "two ties with one letter end in room 1": [(0, "a", 1), (1, "a", 1)],
    "a room is not come to": [(0, "a", 0), (1, "a", 1)],
    "a room is not come to, with two ties": [(0, "a", 0), (1, "a", 1), (1, "b", 1)],
    "room 0 has no ties": [(1, "a", 1)],
    "rooms 1 and 2 are not come to": [(1, "a", 2), (2, "a", 1)],
    "room 1 has one end": [(0, "a", 1)],
    "room 1 has one end, of a tie to room 0": [(1, "a", 0)],
    "room 2 has one end": [(0, "a", 1), (1, "a", 0), (1, "b", 2)],
    "room 1 has one end, 0 more": [(0, "a", 0), (0, "b", 1)],
    "numbered by b before a": [(0, "a", 2), (0, "b", 1), (1, "b", 0), (2, "a", 0)],
    "numbered back before along": [(0, "a", 2), (1, "a", 0), (2, "a", 1)],
    "numbered depth first": [(0, "a", 1), (0, "b", 3), (1, "c", 2), (2, "c", 1), (3, "b", 0)],
    "numbered with a gap": [(0, "a", 2), (2, "a", 0)],
    "numbered with a great gap": [(0, "a", 10 ** 30), (10 ** 30, "a", 0)],
    "not rising": [(0, "b", 0), (0, "a", 0)],
    "not rising by rooms": [(1, "a", 0), (0, "a", 1)],
    "falling": [(1, "b", 1), (0, "a", 1)],
    "a tie twice": [(0, "a", 0), (0, "a", 0)],
    "a later tie twice": [(0, "a", 1), (1, "b", 0), (1, "b", 0)],
}

NO_ROOMS = [True, False, "0", "", None, 0.0, -1, -10 ** 30, (0,), [], [0], b"0", 1j, "a"]
NO_LETTERS = ["A", "Z", "ab", "aa", "", " ", "1", "-", "\n", "a\n", "`", "{", None, 0, 97, True,
              ("a",), ["a"], b"a"]


class WhatIsAWeb(unittest.TestCase):
    def test_webs(self):
        for web in WEBS:
            self.assertIs(is_web(web), True, web)

    def test_no_webs(self):
        for why, ties in NO_WEBS.items():
            self.assertIs(is_web(ties), False, why)

    def test_the_order_of_the_ties(self):
        for web in WEBS:
            for ties in permutations(web):
                self.assertIs(is_web(list(ties)), list(ties) == web, ties)

    def test_the_numbers_of_the_rooms(self):
        for web in WEBS:
            rooms = 1 + max([0] + [room for tie in web for room in (tie[0], tie[2])])
            for named in permutations(range(1, rooms + 1)):
                ties = sorted((named[a], letter, named[b]) for a, letter, b in web)
                self.assertIs(is_web(ties), web == [], ties)
            for named in permutations(range(1, rooms)):
                named = (0,) + named
                ties = sorted((named[a], letter, named[b]) for a, letter, b in web)
                self.assertIs(is_web(ties), ties == web, ties)

    def test_no_rooms(self):
        for room in NO_ROOMS:
            for ties in (
                [(room, "a", 0)], [(0, "a", room)], [(room, "a", room)],
                [(0, "a", room), (room, "a", 0)], [(room, "a", 1), (1, "a", room)],
                [(0, "a", 0), (0, "b", room)],
            ):
                self.assertIs(is_web(ties), False, ties)

    def test_rooms_below_0(self):
        self.assertIs(is_web([(-1, "a", 0), (0, "a", -1)]), False)
        self.assertIs(is_web([(-1, "a", -1)]), False)
        self.assertIs(is_web([(-2, "a", 0), (-1, "b", -2), (0, "a", -1)]), False)

    def test_no_letters(self):
        for letter in NO_LETTERS:
            self.assertIs(is_web([(0, letter, 0)]), False, letter)
            self.assertIs(is_web([(0, "a", 0), (0, letter, 0)]), False, letter)
            self.assertIs(is_web([(0, letter, 1), (1, letter, 0)]), False, letter)

    def test_no_ties(self):
        for thing in [
            (), (0,), (0, "a"), ("a", 0), (0, "a", 0, 0), (0, "a", 0, "a"), [0, "a", 0], "0a0",
            {0: "a"}, (0, 0, "a"), ("a", 0, 0), ((0, "a", 0),), [(0, "a", 0)],
        ]:
            self.assertIs(is_web([thing]), False, thing)
            self.assertIs(is_web([(0, "a", 0), thing]), False, thing)
            self.assertIs(is_web([thing, (0, "b", 0)]), False, thing)

    def test_no_list(self):
        for thing in ODD_THINGS:
            if thing != []:
                self.assertIs(is_web(thing), False, repr(thing))
        for thing in ["", "a", ((0, "a", 0),), {(0, "a", 0)}, {(0, "a", 0): 1}, (0, "a", 0)]:
            self.assertIs(is_web(thing), False, repr(thing))
        self.assertIs(is_web(iter([(0, "a", 0)])), False)

    def test_any_thing_within(self):
        for thing in [thing for thing in ODD_THINGS if type(thing) is not int] + HOSTILE_THINGS:
            for ties in (
                [thing], [(0, "a", 0), thing], [thing, thing], [(0, thing, 0)], [(thing, "a", 0)],
                [(0, "a", thing)], [(thing, thing, thing)], [(0, "a", 0), (0, "b", thing)],
            ):
                self.assertIs(is_web(ties), False)

    def test_hostile_things_raise_nothing(self):
        for thing in HOSTILE_THINGS:
            self.assertIs(is_web(thing), False)

    def test_a_list_in_itself(self):
        ring = []
        ring.append(ring)
        self.assertIs(is_web(ring), False)
        ring[0] = (0, "a", ring)
        self.assertIs(is_web(ring), False)

    def test_nothing_is_changed(self):
        for ties in WEBS + list(NO_WEBS.values()):
            before = list(ties)
            is_web(ties)
            self.assertEqual(ties, before)

    def test_many_ties(self):
        ring = [(0, "a", 1)] + [(k, "a", k + 2) for k in range(1, 399, 2)]
        ring += [(k + 2, "a", k) for k in range(2, 398, 2)] + [(2, "a", 0), (399, "a", 398)]
        ring = sorted(ring)
        self.assertEqual(len(ring), 400)
        self.assertIs(is_web(ring), True)
        self.assertIs(is_web(ring[:-1]), False)
        self.assertIs(is_web(ring[1:]), False)


class JustTheWebsOfRows(unittest.TestCase):
    """What is a web is the web of its own words, and each web of a row is one."""

    def test_all_small_lists_of_ties(self):
        ties = sorted(product(range(3), "ab", range(3)))
        webs = []
        for many in range(5):
            webs += [list(some) for some in combinations(ties, many) if is_web(list(some))]
        for web in webs:
            self.assertEqual(web_of(generators(web)), web)
        self.assertGreater(len(webs), 50)
        words = short_texts("abAB", 4)
        for row in [[word] for word in words] + [list(two) for two in combinations(words, 2)]:
            web = web_of(row)
            self.assertIs(is_web(web), True, row)
            if len(web) <= 4 and all(max(a, b) < 3 for a, _, b in web):
                self.assertIn(web, webs)


class Refusals(unittest.TestCase):
    def test_no_webs(self):
        things = [thing for thing in ODD_THINGS if thing != []] + HOSTILE_THINGS
        for thing in things + list(NO_WEBS.values()) + [[(True, "a", True)], [(0, "A", 0)]]:
            for word in ("", "a", "aA", None, "1", [], Ellipsis):
                with self.assertRaises(BadWeb) as caught:
                    reads(thing, word)
                self.assertIs(type(caught.exception), BadWeb)


if __name__ == "__main__":
    unittest.main()
