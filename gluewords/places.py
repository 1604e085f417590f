"""Places within the words of a row, and the steps that letters make between them.

A place is named by a short word. A step from a place is told as (letter, place, number): the
first place with the letter behind it is one times the second place, where the one is the word
of the row that the number tells, or its back, or the empty word if the number is 0.
"""

from gluewords.words import back


def steps_of(row):
    """Return a dict of the steps from each place within the short words of a row."""
    steps = {"": []}
    for at, word in enumerate(row):
        if word:
            # With the step of the number in the middle, words share most places with others.
            half = len(word) // 2
            head, tail = word[:half], back(word[half + 1:])
            _grow(steps, head)
            _grow(steps, tail)
            _add(steps, head, word[half], tail, at + 1)
    return steps


def _grow(steps, word):
    """Add the places on the way to the word, and the word."""
    for at, letter in enumerate(word):
        place = word[:at + 1]
        if place not in steps:
            steps[place] = []
            _add(steps, word[:at], letter, place, 0)


def _add(steps, here, letter, there, number):
    """Add a step, and the step back."""
    steps[here].append((letter, there, number))
    steps[there].append((letter.swapcase(), here, -number))
