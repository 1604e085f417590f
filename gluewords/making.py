"""Making a word of the words of a row."""

from gluewords.gluing import glued
from gluewords.places import steps_of
from gluewords.strands import EMPTY, joined, keep_shorter, numbers_of, single
from gluewords.words import short


def made_by(words, word):
    """Return a shortest making of the word by the row, None where there is none."""
    steps = steps_of([short(part) for part in words])
    letters = short(word)
    glue = glued(steps)
    # By the strand of a place the row makes what is read so far times the back of the place.
    reached = {"": EMPTY}
    for letter in letters:
        reached = _stepped(steps, _spread(glue, reached), letter)
    making = _spread(glue, reached).get("")
    return None if making is None else numbers_of(making)


def _spread(glue, reached):
    """Return the strands of all places that are one with those reached."""
    strands = {}
    for many, place in sorted([(strand[0], place) for place, strand in reached.items()]):
        # Where another place already gave as short a strand, it gave all that this one could.
        if place not in strands or many < strands[place][0]:
            for end, more in glue[place].items():
                keep_shorter(strands, end, joined(reached[place], more))
    return strands


def _stepped(steps, reached, letter):
    """Return the strands of the places to which the letter leads from those reached."""
    strands = {}
    for place, strand in reached.items():
        for mark, end, number in steps[place]:
            if mark == letter:
                keep_shorter(strands, end, joined(strand, single(number)))
    return strands
