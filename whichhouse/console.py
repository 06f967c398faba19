"""The console: a book that is led by lines."""

from whichhouse.books import Book
from whichhouse.codes import code_of, fewest_codes
from whichhouse.errors import InvalidLine
from whichhouse.orders import read_order
from whichhouse.webs import Web

DONE = "ok"


def set_web(book, name, text):
    """Puts a web under a name, and tells how many houses it has."""
    web = Web(text)
    book[name] = web
    return str(web.houses)


def drop_web(book, name):
    """Takes a web away."""
    book.drop(name)
    return DONE


def take_back(book):
    """Takes the last change back."""
    book.undo()
    return DONE


def make_claim(book, claim):
    """Makes a claim."""
    book.claim(claim)
    return DONE


def tell_end(book, name, house, word):
    """The house where a word ends."""
    return told(book[name].go(house, word), "nowhere")


def tell_code(book, name, word):
    """The number of the class of the pairs that a word leads."""
    return told(code_of(book[name], word), "nowhere")


def tell_fewest(book, name):
    """The least number of values of a code."""
    return told(fewest_codes(book[name]), "none")


def told(number, otherwise):
    """The answer with a number, or what is said if there is none."""
    return otherwise if number is None else str(number)


ANSWERS = {
    "set": set_web, "drop": drop_web, "undo": take_back, "claim": make_claim, "go": tell_end, "code": tell_code,
    "fewest": tell_fewest,
}


class Console:
    """Keeps a book, and executes lines one by one."""

    def __init__(self):
        self._book = Book()

    @property
    def book(self):
        """The book."""
        return self._book

    def say(self, line):
        """Executes a line, and returns its answer."""
        order = read_order(line)
        if order is None:
            raise InvalidLine(line)
        answer = ANSWERS[order[0]]
        rest = order[1:]
        return answer(self._book, *rest)

    def __eq__(self, other):
        return isinstance(other, Console) and self is other
