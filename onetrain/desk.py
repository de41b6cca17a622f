"""A desk that takes commands as strings and answers with strings."""

from onetrain.alike import Alike, held
from onetrain.book import Book
from onetrain.errors import BadText, TrainError
from onetrain.fates import far, fate, meet
from onetrain.marches import after
from onetrain.rowtexts import place_text, read_marches, read_number, read_place, row_text
from onetrain.trains import train

DONE = "done"


def tell_keep(book, name, marches):
    book.keep(name, marches)
    return [DONE]


def tell_drop(book, name):
    book.drop(name)
    return [DONE]


def tell_post(book, place):
    book.post(place)
    return [DONE]


def tell_call(book, name):
    book.call(name)
    return [DONE]


def tell_back(book):
    book.back()
    return [DONE]


def tell_row(book, name):
    return [row_text(book.row(name))]


def tell_names(book):
    return book.names()


def tell_where(book):
    return [place_text(place) for place in book.where()]


def tell_after(book, name, rounds, place):
    return [place_text(after(book.row(name), place, rounds=rounds))]


def tell_far(book, name, rounds, place):
    return [place_text(far(book.row(name), place, rounds))]


def tell_held(book, name, other):
    found = held(book.row(name), book.row(other))
    if found == Alike():
        return ["alike"]
    return [f"parted {place_text(found.place)}"]


def tell_claim(book, name, other):
    return ["true" if book.claim(name, other) else "false"]


def tell_train(book, name):
    found = train(book.row(name))
    manner = "turned" if found.is_turned else "still"
    return [f"{place_text(found.one)} {place_text(found.other)} {manner}"]


def tell_fate(book, name, place):
    tail, ring = fate(book.row(name), place)
    return [f"{tail} {ring}"]


def tell_meet(book, name, one, other):
    rounds = meet(book.row(name), one, other)
    return ["never" if rounds is None else str(rounds)]


ACTIONS = {
    "keep": tell_keep,
    "drop": tell_drop,
    "post": tell_post,
    "call": tell_call,
    "back": tell_back,
    "row": tell_row,
    "names": tell_names,
    "where": tell_where,
    "after": tell_after,
    "far": tell_far,
    "held": tell_held,
    "claim": tell_claim,
    "train": tell_train,
    "fate": tell_fate,
    "meet": tell_meet,
}

# The kinds of the words that follow the first word of each command.
KINDS = {
    "keep": ("name", "marches"),
    "drop": ("name",),
    "post": ("place",),
    "call": ("name",),
    "back": (),
    "row": ("name",),
    "names": (),
    "where": (),
    "after": ("name", "number", "place"),
    "far": ("name", "number", "place"),
    "held": ("name", "name"),
    "claim": ("name", "name"),
    "train": ("name",),
    "fate": ("name", "place"),
    "meet": ("name", "place", "place"),
}


class Desk:
    """Commands about the rows, people and claims of one book."""

    def __init__(self, tree):
        self.book = Book(tree)

    def tell(self, row):
        """Return the answer to a command, as a list of strings."""
        try:
            words = words_of(row)
            given = read_words(words)
            action = ACTIONS[words[0]]
            return action(self.book, *given)
        except TrainError as error:
            return [error.told()]


def words_of(text):
    """Return the words of a command; the marches of `keep`, which have blanks themselves, are one."""
    words = text.split(" ")
    return text.split(" ", 2) if words[0] == "keep" else words


def read_words(words):
    """Return what the words behind the first word of a command stand for."""
    kinds = KINDS.get(words[0])
    if kinds is None or len(words) != 1 + len(kinds):
        raise BadText(0)
    given = [read_word(kind, word) for kind, word in zip(kinds, words[1:])]
    if any([one is None for one in given]):
        raise BadText(0)
    return given


def read_word(kind, word):
    """Return what a word of a command stands for, or None."""
    if kind == "place":
        return read_place(word)
    if kind == "number":
        return read_number(word)
    if kind == "marches":
        return read_marches(word)
    return word or None
