"""The desk: films and gathers by names, asked by rows of words."""

from lanescroll.cuts import beside, cut, edited, join
from lanescroll.errors import NoName, NoRow, NoText
from lanescroll.files import write
from lanescroll.films import Film
from lanescroll.gather import Gather
from lanescroll.seeker import Seeker
from lanescroll.texts import bytes_of, edit_from, film_lines, hex_of, is_number_word, read_moment, read_text

LONGEST_NAME = 8

# What the words behind the first one are, row by row.
SHAPES = {
    "film": ("new", "lines"),
    "text": ("film",),
    "cut": ("new", "film", "moment", "moment"),
    "join": ("new", "film", "film"),
    "beside": ("new", "film", "film"),
    "edited": ("new", "film", "edits"),
    "salvage": ("new", "gather"),
    "shown": ("either", "number", "moment"),
    "seek": ("film", "number", "number", "moment"),
    "file": ("film", "number"),
    "gather": ("new", "number"),
    "take": ("gather", "hex"),
    "lost": ("gather", "number"),
    "whole": ("gather",),
    "names": (),
}
# Those of them that are names.
NAMES = ("new", "film", "gather", "either")


class Desk:
    """Keeps films and gathers by names, and answers rows of words."""

    def __init__(self):
        self.things = {}

    def say(self, row):
        """The answer to a row."""
        word, *rest = words_of(row)
        shape = SHAPES[word]
        values = self.understood(shape, rest)
        if word == "names":
            return listed(sorted(self.things))
        if shape[0] != "new":
            return answer(word, values)
        # Kept only when it is made: a refused row leaves all as it was.
        self.things[values[0]] = made(word, values[1:])
        return "ok"

    def understood(self, shape, words):
        """What the words are, by their shape: all numbers are looked at first, then all names, then all texts."""
        values = [number_in(kind, word) for kind, word in zip(shape, words)]
        values = [self.named(kind, value) for kind, value in zip(shape, values)]
        return [text_in(kind, value) for kind, value in zip(shape, values)]

    def named(self, kind, word):
        """The thing of a name, or a new name itself, where a name is asked for, else the word."""
        if kind not in NAMES:
            return word
        if not is_name(word):
            raise NoName("this is no name")
        if kind == "new":
            return word
        if word not in self.things or not has_kind(self.things[word], kind):
            raise NoName("no such thing has this name")
        return self.things[word]


def words_of(row):
    """The words of a row, as many as its first one asks for."""
    if not isinstance(row, str):
        raise NoRow("this is no text")
    words = row.split(" ")
    if words[0] not in SHAPES:
        raise NoRow("there is no such row")
    many = len(SHAPES[words[0]]) + 1
    if words[0] == "film" and len(words) > many:
        # The lines are one word here, whatever blanks are in them.
        words = words[:many - 1] + [" ".join(words[many - 1:])]
    if len(words) != many:
        raise NoRow("this row has another count of words")
    return words


def number_in(kind, word):
    """The number of a word, where a number is asked for, else the word."""
    if kind != "number":
        return word
    if not is_number_word(word):
        raise NoRow("this is no number")
    return int(word)


def is_name(word):
    """Whether the word is a name: one to eight small letters."""
    return len(word) <= LONGEST_NAME and word.isascii() and word.isalpha() and word.islower()


def has_kind(thing, kind):
    """Whether a thing of the desk is what is asked for."""
    if kind == "film":
        return isinstance(thing, Film)
    if kind == "gather":
        return isinstance(thing, Gather)
    return True


def edits_in(word):
    """The list of tuples that a word for edits tells."""
    if word == "-":
        return []
    return [edit_from(part.split(",")) for part in word.split(";")]


def film_of_lines(word):
    """The film of a film's lines, `; ` between."""
    if "\n" in word:
        raise NoText("lines are not parted so here")
    return read_text(word.replace("; ", "\n"))


def text_in(kind, word):
    """What a word tells, where a text that can be read is asked for, else what it is."""
    if kind == "lines":
        return film_of_lines(word)
    if kind == "moment":
        return read_moment(word)
    if kind == "edits":
        return edits_in(word)
    if kind == "hex":
        return bytes_of(word)
    return word


def made(word, values):
    """The thing that a row with a new name makes."""
    if word == "film":
        return values[0]
    if word == "gather":
        return Gather(values[0])
    if word == "salvage":
        return values[0].salvage()
    if word == "cut":
        return cut(*values)
    if word == "join":
        return join(*values)
    if word == "beside":
        return beside(*values)
    return edited(*values)


def listed(things):
    """The things as words, - for none."""
    return " ".join([str(thing) for thing in things]) if things else "-"


def shown_words(told):
    """The words for what is shown, told as a gather tells it."""
    if told[0] != "leaf":
        return told[0]
    values = ["?" if value is None else str(value) for value in told[2]]
    return " ".join([str(told[1])] + values)


def shown_of(thing, lane, t):
    """The words for what a film or a gather shows."""
    told = thing.shown(lane, t)
    if isinstance(thing, Gather):
        return shown_words(told)
    return "blank" if told is None else shown_words(("leaf",) + told)


def sought(film, many, lane, t):
    """The words for what a seeker over the film's file shows, and for the places that it opened."""
    seeker = Seeker(write(film, many))
    words = shown_words(seeker.shown(lane, t))
    return f"{words} / {listed(seeker.opened())}"


def answer(word, values):
    """The answer to a row that makes nothing."""
    if word == "text":
        return "; ".join(film_lines(values[0]))
    if word == "shown":
        return shown_of(*values)
    if word == "seek":
        return sought(*values)
    if word == "file":
        return hex_of(write(*values))
    if word == "take":
        return listed(values[0].take(values[1]))
    if word == "lost":
        return listed(values[0].lost(values[1]))
    return "yes" if values[0].whole() else "no"
