"""Making rooms one until each letter leads to one room at most from each room."""

from gluewords.leads import both_ways, tie_of


def rings(words):
    """Return the ties of one ring for each short word, from room 0 back to room 0."""
    ties = []
    rooms = 1
    for word in words:
        here = 0
        for letter in word[:-1]:
            ties.append(tie_of(here, letter, rooms))
            here = rooms
            rooms += 1
        if word:
            ties.append(tie_of(here, word[-1], 0))
    return ties


def folded(ties):
    """Return the ties with rooms made one wherever a letter would lead to both.

    Of rooms made one the lowest stays, so room 0 does.
    """
    joined = {}
    exits = {}
    waiting = [link for tie in ties for link in both_ways(tie)]
    while waiting:
        start, letter, end = waiting.pop()
        start, end = _lowest(joined, start), _lowest(joined, end)
        known = _lowest(joined, exits.setdefault(start, {}).setdefault(letter, end))
        if known != end:
            low, high = min(known, end), max(known, end)
            joined[high] = low
            # What led on from the room that goes must lead on from the one that stays.
            moved = exits.pop(high, {})
            waiting.extend([(low, mark, room) for mark, room in moved.items()])
    return _ties_of(joined, exits)


def _lowest(joined, room):
    """Return the room that stands for the room, and for all made one with it."""
    while room in joined:
        room = joined[room]
    return room


def _ties_of(joined, exits):
    ties = []
    for room, ways in exits.items():
        for letter, end in ways.items():
            if letter.islower():
                ties.append((room, letter, _lowest(joined, end)))
    return ties
