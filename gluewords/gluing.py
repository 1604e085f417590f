"""Which places are one for a row: the row makes the one times the back of the other."""

from heapq import heappop, heappush

from gluewords.strands import EMPTY, joined, keep_shorter, single


def glued(steps):
    """Return, for each place, a dict of the places that are one with it.

    It tells for each of these a shortest strand of the numbers by which the row makes the
    place times the back of that one.
    """
    best = {place: {place: EMPTY} for place in steps}
    after = {place: {} for place in steps}
    before = {place: {} for place in steps}
    edges = {place: {} for place in steps}
    queue = sorted([(0, place, place, False) for place in steps])
    while queue:
        # The shortest comes first, and what is built of it is as long at least,
        # so nothing that is taken here is made shorter later.
        _, one, other, is_edge = heappop(queue)
        if other in after[one]:
            continue
        strand = best[one][other]
        after[one][other] = strand
        before[other][one] = strand
        new = _led_on(steps, one, other, strand)
        # To join edges is enough: any other strand is joined of edges itself.
        new += [(one, end, joined(strand, more), False) for end, more in edges[other].items()]
        if is_edge:
            edges[one][other] = strand
            new += [(start, other, joined(less, strand), False) for start, less in before[one].items()]
        for start, end, longer, led in new:
            if keep_shorter(best[start], end, longer):
                heappush(queue, (longer[0], start, end, led))
    return after


def _led_on(steps, one, other, strand):
    """Return the strands between places to which the same letter leads from the one and the other."""
    return [
        (start, end, joined(joined(single(-first), strand), single(second)), True)
        for letter, start, first in steps[one]
        for mark, end, second in steps[other] if mark == letter
    ]
