"""Where the letters lead between the rooms that ties join, and how rooms are found."""


def both_ways(tie):
    """Return the two (room, letter, room) by which letters lead along a tie."""
    first, letter, second = tie
    return [(first, letter, second), (second, letter.upper(), first)]


def tie_of(here, letter, there):
    """Return the tie along which, or back along which, the letter leads from here to there."""
    if letter.islower():
        return (here, letter, there)
    return (there, letter.lower(), here)


def leads_of(ties):
    """Return a dict that tells to which room a (room, letter) leads."""
    return {(start, letter): end for tie in ties for start, letter, end in both_ways(tie)}


def findings(ties):
    """Return how rooms are found from room 0, in order: (known room, letter, new room)."""
    leads = leads_of(ties)
    used = sorted({letter for first, letter, second in ties})
    letters = "".join([letter + letter.upper() for letter in used])
    known = {0}
    rooms = [0]
    steps = []
    at = 0
    while at < len(rooms):
        for letter in letters:
            end = leads.get((rooms[at], letter))
            if end is not None and end not in known:
                known.add(end)
                rooms.append(end)
                steps.append((rooms[at], letter, end))
        at += 1
    return steps


def numbering(ties):
    """Return the number of each room that is come to from room 0, as they are found."""
    numbers = {0: 0}
    for start, letter, end in findings(ties):
        numbers[end] = len(numbers)
    return numbers


def renumbered(ties):
    """Return, rising, the ties that are come to from room 0, their rooms numbered as found."""
    numbers = numbering(ties)
    return sorted([
        (numbers[first], letter, numbers[second])
        for first, letter, second in ties if first in numbers
    ])
