"""Words: texts of letters, in which a letter beside its back falls away."""

from gluewords.errors import BadWord


def is_word(thing):
    """Tell whether the thing is a text of the letters a to z and A to Z."""
    # The class must be str itself: a class made from it may answer falsely or raise.
    return type(thing) == str and all([_is_letter(sign) for sign in thing])


def is_small(thing):
    """Tell whether the thing is one small letter."""
    return type(thing) == str and len(thing) == 1 and "a" <= thing <= "z"


def check_word(thing):
    """Refuse what is no word."""
    if not is_word(thing):
        # The thing is not shown: to show it may raise another error.
        raise BadWord("a word is a text of the letters a to z and A to Z")


def short(word):
    """Return the word without all that falls away."""
    check_word(word)
    kept = []
    for letter in word:
        if kept and kept[-1] == letter.swapcase():
            kept.pop()
        else:
            kept.append(letter)
    return "".join(kept)


def back(word):
    """Return the backs of the letters from the last one to the first, shortened."""
    check_word(word)
    return short("".join([letter.swapcase() for letter in word[::-1]]))


def times(one, other):
    """Return the one word with the other written behind it, shortened."""
    check_word(one)
    check_word(other)
    return short(one + other)


def _is_letter(sign):
    return "a" <= sign <= "z" or "A" <= sign <= "Z"
