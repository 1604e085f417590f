"""Slow, plain ways to the same answers, written apart from the package."""

from itertools import product

ODD_THINGS = [
    None, 0, 1, -3, 10 ** 40, True, False, 1.0, float("nan"), 2j, b"ab", b"", bytearray(b"a"),
    [], ["a"], ["a", "b"], (), ("a",), ("a", "b"), {}, {"a": "b"}, set(), {"a"}, frozenset("ab"),
    range(3), iter("ab"), object(), object, str, len, lambda: "a", ..., NotImplemented,
]

WRONG_TEXTS = [
    " ", "a b", " ab", "ab ", "a1", "1", "a\n", "\n", "\nab", "a\nb", "a\r", "a-b", "-", "-a",
    "a'", "a_b", "a.b", "@", "[", "`", "{", "~", "a\tb", "a^", "(a)",
]


class Hostile:
    """A thing that raises whatever it is asked."""

    def _refuse(self, *told):
        raise RuntimeError("asked")

    __class__ = property(_refuse)
    __eq__ = __ne__ = __lt__ = __le__ = __gt__ = __ge__ = _refuse
    __len__ = __iter__ = __getitem__ = __bool__ = __hash__ = __contains__ = _refuse
    __str__ = __repr__ = __int__ = __index__ = __getattr__ = _refuse


class HostileList(list):
    __iter__ = __len__ = __getitem__ = __eq__ = __bool__ = __repr__ = Hostile._refuse


class HostileText(str):
    __iter__ = __len__ = __getitem__ = __eq__ = __bool__ = __repr__ = __lt__ = Hostile._refuse


class HostileTuple(tuple):
    __iter__ = __len__ = __getitem__ = __eq__ = __bool__ = __repr__ = Hostile._refuse


class HostileNumber(int):
    __eq__ = __ne__ = __lt__ = __le__ = __gt__ = __ge__ = __hash__ = __bool__ = Hostile._refuse


class Lying:
    """A thing that says it is a text, a list, a tuple or a number, and is none."""

    def __init__(self, kind):
        self._kind = kind

    @property
    def __class__(self):
        return self._kind


HOSTILE_THINGS = [
    Hostile(), HostileList([(0, "a", 0)]), HostileText("ab"), HostileTuple((0, "a", 0)),
    HostileNumber(0), Lying(str), Lying(list), Lying(tuple), Lying(int),
]


def turned(letter):
    return letter.upper() if letter.islower() else letter.lower()


def shrunk(word):
    """The short word, by taking out the first pair again and again."""
    for at in range(len(word) - 1):
        if word[at + 1] == turned(word[at]):
            return shrunk(word[:at] + word[at + 2:])
    return word


def all_ends(word):
    """Every word without a pair that some order of taking out comes to."""
    ends = set()
    stuck = True
    for at in range(len(word) - 1):
        if word[at + 1] == turned(word[at]):
            stuck = False
            ends |= all_ends(word[:at] + word[at + 2:])
    return {word} if stuck else ends


def turned_word(word):
    return shrunk("".join(turned(letter) for letter in reversed(word)))


def texts(letters, most):
    """Every text of these letters, up to this length."""
    return ["".join(some) for many in range(most + 1) for some in product(letters, repeat=many)]


def short_texts(letters, most):
    return [text for text in texts(letters, most) if shrunk(text) == text]


def products(row, bound):
    """All products that can be built without a word longer than the bound on the way."""
    steps = [shrunk(word) for word in row] + [turned_word(word) for word in row]
    made = {""}
    new = [""]
    while new:
        word = new.pop()
        for step in steps:
            longer = shrunk(word + step)
            if len(longer) <= bound and longer not in made:
                made.add(longer)
                new.append(longer)
    return made


def fewest_factors(row, most):
    """The least number of factors of each product of so many words of the row and their backs."""
    steps = [shrunk(word) for word in row] + [turned_word(word) for word in row]
    told = {"": 0}
    last = [""]
    for many in range(1, most + 1):
        new = []
        for word in last:
            for step in steps:
                longer = shrunk(word + step)
                if longer not in told:
                    told[longer] = many
                    new.append(longer)
        last = new
    return told


def generators(web):
    """Words around each tie that is not needed to come to the rooms."""
    ways = {0: ""}
    needed = set()
    grown = True
    while grown:
        grown = False
        for tie in web:
            first, letter, second = tie
            if first in ways and second not in ways:
                ways[second] = ways[first] + letter
            elif second in ways and first not in ways:
                ways[first] = ways[second] + turned(letter)
            else:
                continue
            needed.add(tie)
            grown = True
    return [
        shrunk(ways[first] + letter + turned_word(ways[second]))
        for first, letter, second in web if (first, letter, second) not in needed
    ]


def random_word(chance, letters, many):
    return "".join(chance.choice(letters) for _ in range(many))


def random_row(chance, words, letters, total):
    """A row of so many words, with at most so many letters in all."""
    row = []
    for left in range(words, 0, -1):
        many = chance.randint(0, min(total, 2 * total // left))
        row.append(random_word(chance, letters, many))
        total -= many
    return row


def multiplied(row, making):
    """The product of these numbers, in order, as a short word."""
    parts = {}
    for at, word in enumerate(row):
        parts[at + 1] = shrunk(word)
        parts[-at - 1] = turned_word(word)
    kept = []
    for number in making:
        for letter in parts[number]:
            if kept and kept[-1] == turned(letter):
                kept.pop()
            else:
                kept.append(letter)
    return "".join(kept)


def padded(chance, word, letters, times):
    """The word with letters and their backs put in between."""
    for _ in range(times):
        at = chance.randint(0, len(word))
        letter = chance.choice(letters)
        word = word[:at] + letter + turned(letter) + word[at:]
    return word


def rooms_of(web):
    return sorted({0} | {room for first, _, second in web for room in (first, second)})


def neighbours(web, room):
    """The (letter, room) to which letters lead, letter by letter, along before back."""
    led = []
    for letter in sorted({letter for _, letter, _ in web}):
        led += [(letter, end) for start, mark, end in web if (start, mark) == (room, letter)]
        led += [(letter.upper(), start) for start, mark, end in web if (end, mark) == (room, letter)]
    return led


def ways(web):
    """The way to each room: each is found from the lowest room beside it."""
    told = {0: ""}
    for room in rooms_of(web)[1:]:
        for known in rooms_of(web)[:room]:
            letters = [letter for letter, end in neighbours(web, known) if end == room]
            if letters:
                told[room] = told[known] + letters[0]
                break
    return told


def fewest(web):
    """The words around the ties by which no room was found, by the ways alone."""
    told = ways(web)
    words = []
    for first, letter, second in web:
        along = told[second] == told[first] + letter
        against = told[first] == told[second] + turned(letter)
        if not along and not against:
            words.append(shrunk(told[first] + letter + turned_word(told[second])))
    return words


def random_whole_ties(chance, rooms, letters):
    """Ties with which each letter begins and ends once at each room, perhaps not all come to."""
    ties = []
    for letter in letters:
        ends = chance.sample(range(rooms), rooms)
        ties += [(room, letter, ends[room]) for room in range(rooms)]
    return ties


def named_as_found(ties):
    """The ties that are come to from room 0, rising, the rooms numbered as they are found."""
    found = [0]
    for room in found:
        for _, end in neighbours(ties, room):
            if end not in found:
                found.append(end)
    return sorted((found.index(first), letter, found.index(second))
                  for first, letter, second in ties if first in found)
