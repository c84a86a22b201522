"""Texts: films as lines of words, moments as words, rows of bytes as figures."""

from lanescroll.edits import refuse_no_moment
from lanescroll.errors import NoFilm, NoText
from lanescroll.films import film_of
from lanescroll.ratios import is_moment
from lanescroll.rows import refuse_no_bytes
from lanescroll.rules import rule_of

HEX_FIGURES = "0123456789abcdef"
MOST_FIGURES = 60
LEAF_WORDS = ("full", "still", "woven")


def is_number_word(word):
    """Whether the text is a number by its figures, no 0 ahead but in 0 itself, and no more than sixty."""
    if not word.isascii() or not word.isdigit() or len(word) > MOST_FIGURES:
        return False
    return word == "0" or not word.startswith("0")


def number_of(word):
    """The number that the word tells."""
    if not is_number_word(word):
        raise NoText("this is no number")
    return int(word)


def fraction_word(told):
    """The word of a fraction from nought on."""
    top, bottom = told
    return str(top) if bottom == 1 else f"{top}/{bottom}"


def start_word(start):
    """The word of an edit's start."""
    return "-" if start is None else fraction_word(start)


def leaf_line(told):
    """The line of a leaf as told."""
    kind, begin, span, held = told
    if kind == "still":
        words = [str(held)]
    elif kind == "full":
        words = [str(value) for value in held]
    else:
        words = [str(rule_of(rule)) for rule in held]
    return " ".join([kind, str(begin), str(span)] + words)


def edit_line(edit):
    """The line of an edit."""
    span, start, rate = edit
    return f"edit {fraction_word(span)} {start_word(start)} {fraction_word(rate)}"


def film_lines(film):
    """The film's lines."""
    seal, wide, lanes = film.told()
    lines = [f"film {seal} {wide}"]
    for units, leaves, edits in lanes:
        lines.append(f"lane {units}")
        lines.extend([leaf_line(leaf) for leaf in leaves])
        lines.extend([edit_line(edit) for edit in edits])
    return lines


def film_text(film):
    """The film's lines, a line feed between."""
    return "\n".join(film_lines(film))


def need_of(word):
    """The pair (back, cell) of a word BACK:CELL."""
    back, colon, cell = word.partition(":")
    return (number_of(back), number_of(cell))


def rule_from(word):
    """What the word tells as a rule."""
    if is_number_word(word):
        return ("plain", int(word))
    if "+" in word:
        need, sign, add = word.partition("+")
        return ("moved",) + need_of(need) + (number_of(add),)
    one, slash, other = word.partition("/")
    return ("mixed",) + need_of(one) + need_of(other)


def leaf_from(words):
    """What the words of a line tell as a leaf."""
    kind = words[0]
    begin = number_of(words[1])
    span = number_of(words[2])
    if kind == "full":
        return (kind, begin, span, tuple([number_of(word) for word in words[3:]]))
    if kind == "woven":
        return (kind, begin, span, tuple([rule_from(word) for word in words[3:]]))
    if len(words) != 4:
        raise NoText("a still leaf has one back")
    return (kind, begin, span, number_of(words[3]))


def edit_from(words):
    """The tuple of three words: of a span, of a start, - for a blank, and of a rate."""
    if len(words) != 3:
        raise NoText("an edit has three words")
    span, start, rate = words
    return (read_moment(span), None if start == "-" else read_moment(start), read_moment(rate))


def put_line(lanes, words):
    """Puts what the words of a line tell to the lanes as told so far."""
    kind = words[0]
    if kind == "lane" and len(words) == 2:
        lanes.append((number_of(words[1]), [], []))
    elif kind in LEAF_WORDS and len(words) > 3 and lanes:
        lanes[-1][1].append(leaf_from(words))
    elif kind == "edit" and lanes:
        lanes[-1][2].append(edit_from(words[1:]))
    else:
        raise NoText("this is no line of a film")


def film_from(lines):
    """The film that the lines tell, its leaves and edits perhaps in another order than a film's lines."""
    words = lines[0].split(" ")
    if words[0] != "film" or len(words) != 3:
        raise NoText("this is no film's first line")
    lanes = []
    for line in lines[1:]:
        put_line(lanes, line.split(" "))
    try:
        return film_of((number_of(words[1]), number_of(words[2]), lanes))
    except NoFilm:
        raise NoText("these lines tell no film") from None


def read_text(text):
    """The film whose text it is."""
    if not isinstance(text, str):
        raise NoText("this is no text")
    film = film_from(text.split("\n"))
    if film_text(film) != text:
        raise NoText("this is no film's text")
    return film


def moment_word(moment):
    """The word of a moment."""
    refuse_no_moment(moment)
    return fraction_word(moment)


def read_moment(word):
    """The moment whose word it is."""
    if not isinstance(word, str):
        raise NoText("this is no text")
    top, slash, bottom = word.partition("/")
    moment = (number_of(top), number_of(bottom) if slash else 1)
    if not is_moment(moment) or fraction_word(moment) != word:
        raise NoText("this is no moment's word")
    return moment


def hex_of(row):
    """The text of a row of bytes, two figures a byte."""
    refuse_no_bytes(row)
    return "".join([HEX_FIGURES[byte // 16] + HEX_FIGURES[byte % 16] for byte in row])


def bytes_of(text):
    """The row of bytes whose text it is."""
    if not isinstance(text, str) or len(text) % 2 == 1:
        raise NoText("this is no text of two figures a byte")
    figures = [HEX_FIGURES.find(sign) for sign in text]
    if -1 in figures:
        raise NoText("there is no such figure")
    return [figures[at] * 16 + figures[at + 1] for at in range(0, len(figures), 2)]
