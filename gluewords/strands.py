"""Makings while they are worked out: strands, in which long parts are shared, not copied.

A strand is the tuple (0,) without numbers, (1, number) of one number, and (many, one, other)
of two strands one behind the other; its first item tells how many numbers it has.
"""

EMPTY = (0,)


def single(number):
    """Return the strand of this number, or the empty strand for 0."""
    return (1, number) if number != 0 else EMPTY


def joined(one, other):
    """Return the one strand with the other behind it."""
    if one[0] == 0:
        return other
    if other[0] == 0:
        return one
    return (one[0] + other[0], one, other)


def keep_shorter(strands, place, strand):
    """Keep the strand for the place unless one as short is there; tell whether it is kept."""
    kept = place not in strands or strand[0] < strands[place][0]
    if kept:
        strands[place] = strand
    return kept


def numbers_of(strand):
    """Return the list of the numbers of a strand, in order."""
    numbers = []
    waiting = [strand]
    while waiting:
        part = waiting.pop()
        if part[0] == 1:
            numbers.append(part[1])
        elif part[0] > 1:
            waiting.append(part[2])
            waiting.append(part[1])
    return numbers
