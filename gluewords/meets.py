"""Where two webs meet, and into how many sides a web parts the words."""

from gluewords.errors import BadWord
from gluewords.leads import both_ways, leads_of, numbering, renumbered
from gluewords.webs import check_web
from gluewords.words import is_small


def meet(one, other):
    """Return the web that reads just the words that both webs read."""
    check_web(one)
    check_web(other)
    return renumbered(_without_dead_ends(_ties_in_both(one, other)))


def sides(web, letters):
    """Return how many sides the web has among words of the letters, None if beyond number."""
    check_web(web)
    _check_letters(letters, web)
    rooms = len(numbering(web))
    leads = leads_of(web)
    marks = letters + letters.upper()
    whole = all([(room, mark) in leads for room in range(rooms) for mark in marks])
    return rooms if whole else None


def _ties_in_both(one, other):
    """Return the ties along which both webs can be read at once.

    A room is a pair of rooms told as one number, 0 for the pair of both rooms 0.
    """
    rooms = len(numbering(other))
    alike = {}
    for start, letter, end in other:
        alike.setdefault(letter, []).append((start, end))
    return [
        (first * rooms + start, letter, second * rooms + end)
        for first, letter, second in one for start, end in alike.get(letter, [])
    ]


def _without_dead_ends(ties):
    """Return the ties without those that end where, but for room 0, nothing leads on."""
    exits = {}
    for tie in ties:
        for start, letter, end in both_ways(tie):
            exits.setdefault(start, {})[letter] = end
    waiting = list(exits)
    while waiting:
        room = waiting.pop()
        if room != 0 and len(exits[room]) == 1:
            letter, end = list(exits[room].items())[0]
            del exits[room][letter]
            del exits[end][letter.swapcase()]
            # The room at the other end may be a dead end only now.
            waiting.append(end)
    return [
        (room, letter, end)
        for room, ways in exits.items() for letter, end in ways.items() if letter.islower()
    ]


def _check_letters(letters, web):
    """Refuse what is no text of unlike small letters with all of the web's among them."""
    if type(letters) != str or not all([is_small(letter) for letter in letters]):
        raise BadWord("letters are told as a text of small letters")
    if len(set(letters)) != len(letters):
        raise BadWord("no letter is told twice")
    if not all([letter in letters for first, letter, second in web]):
        raise BadWord("the letters of the web are among those told")
