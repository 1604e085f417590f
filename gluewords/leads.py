"""Where the letters lead between the rooms that ties join."""


def both_ways(tie):
    """Return the two (room, letter, room) by which letters lead along a tie."""
    first, letter, second = tie
    return [(first, letter, second), (second, letter.upper(), first)]


def leads_of(ties):
    """Return a dict that tells to which room a (room, letter) leads."""
    return {(start, letter): end for tie in ties for start, letter, end in both_ways(tie)}


def numbering(ties):
    """Return the number of each room that is come to from room 0, as they are found."""
    leads = leads_of(ties)
    used = sorted({letter for first, letter, second in ties})
    letters = "".join([letter + letter.upper() for letter in used])
    numbers = {0: 0}
    found = [0]
    at = 0
    while at < len(found):
        for letter in letters:
            end = leads.get((found[at], letter))
            if end is not None and end not in numbers:
                numbers[end] = len(found)
                found.append(end)
        at += 1
    return numbers
