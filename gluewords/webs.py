"""Webs: what they are, the one of a row of words, and what it reads."""

from gluewords.errors import BadWeb
from gluewords.folding import folded, rings
from gluewords.leads import leads_of, numbering, renumbered
from gluewords.words import is_small, short


def is_web(thing):
    """Tell whether the thing is a web, told as the rising list of its ties."""
    # Only Python's own kinds count: a class made from them may answer falsely or raise.
    if type(thing) != list or not all([_is_tie(part) for part in thing]):
        return False
    return _is_rising(thing) and _is_folded(thing) and _is_numbered(thing) and _has_no_dead_end(thing)


def check_web(thing):
    """Refuse what is no web."""
    if not is_web(thing):
        raise BadWeb("a web is a list of ties, rising, numbered as the rooms are found")


def web_of(words):
    """Return the web that reads just the words that the row makes."""
    # Rings of short words need no pruning: each room but 0 has two letters that lead on.
    return renumbered(folded(rings([short(word) for word in words])))


def reads(web, word):
    """Tell whether the short word leads from room 0 to room 0 of the web."""
    check_web(web)
    leads = leads_of(web)
    room = 0
    for letter in short(word):
        # Once it is None it stays so: no letter leads on from there.
        room = leads.get((room, letter))
    return room == 0


def _is_tie(thing):
    if type(thing) != tuple or len(thing) != 3:
        return False
    first, letter, second = thing
    return _is_room(first) and is_small(letter) and _is_room(second)


def _is_room(thing):
    # True and False are of the class bool, so they are none.
    return type(thing) == int and thing >= 0


def _is_rising(ties):
    return all([tie < after for tie, after in zip(ties, ties[1:])])


def _is_folded(ties):
    # A letter that led to two rooms from one would be one entry instead of two.
    return len(leads_of(ties)) == 2 * len(ties)


def _is_numbered(ties):
    numbers = numbering(ties)
    if not all([first in numbers for first, letter, second in ties]):
        return False
    return all([room == number for room, number in numbers.items()])


def _has_no_dead_end(ties):
    ends = {}
    for first, letter, second in ties:
        ends[first] = ends.get(first, 0) + 1
        ends[second] = ends.get(second, 0) + 1
    return all([many > 1 for room, many in ends.items() if room != 0])
