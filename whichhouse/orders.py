"""The lines of the console, read into orders.

An order is a tuple of a word for what is to be done, and what it is to be done with.
"""

from whichhouse.claims import is_claim
from whichhouse.kinds import is_name, is_word
from whichhouse.limits import MOST_CODES
from whichhouse.texts import read_house, read_number, read_ties


def read_order(line):
    """The order of a line, None for a value that is no line."""
    if not isinstance(line, str) or "\n" in line:
        return None
    words = line.split(" ")
    if words == ["undo"]:
        return ("undo",)
    if len(words) == 2 and words[0] == "drop":
        return ("drop", words[1]) if is_name(words[1]) else None
    if len(words) < 2 or not is_name(words[0]):
        return None
    if words[1] == "=":
        return read_setting(words[0], " ".join(words[2:]))
    return read_asking(words[0], words[1], words[2:]) or read_claim(words)


def read_setting(name, ties):
    """The order to put the web with these ties under a name, None if there is no such web."""
    text = ties.replace(" / ", "\n")
    return None if read_ties(text) is None else ("set", name, text)


def read_asking(name, word, told):
    """The order to answer a question about the web under a name, None if it is no question."""
    if word == "go" and len(told) == 2:
        house = read_house(told[0])
        return ("go", name, house, told[1]) if house is not None and is_word(told[1]) else None
    if word == "code" and len(told) == 1:
        return ("code", name, told[0]) if is_word(told[0]) else None
    return ("fewest", name) if word == "fewest" and not told else None


def read_claim(words):
    """The order to make a claim, whose words are those of the line with the name ahead of the first one."""
    claim = (words[1], words[0])
    for word in words[2:]:
        number = read_number(word, MOST_CODES)
        claim = claim + (word if number is None else number,)
    return ("claim", claim) if is_claim(claim) else None
