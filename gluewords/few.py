"""The fewest words that make what a web reads."""

from gluewords.leads import findings, tie_of
from gluewords.webs import check_web
from gluewords.words import back


def few(web):
    """Return a word for each tie by which no room was found: to the tie, along it, and back."""
    check_web(web)
    ways = {0: ""}
    finding = {}
    for start, letter, end in findings(web):
        ways[end] = ways[start] + letter
        finding[tie_of(start, letter, end)] = True
    # Nothing falls away here: ways end by ties that found a room, and this tie did not.
    return [
        ways[first] + letter + back(ways[second])
        for first, letter, second in web if (first, letter, second) not in finding
    ]
