"""Texts, points 50 and 51."""

import unittest
from fractions import Fraction

from lanescroll.errors import NoBytes, NoMoment, NoText
from lanescroll.films import film_of
from lanescroll.rules import rule_of
from lanescroll.texts import bytes_of, film_text, hex_of, moment_word, read_moment, read_text
from tests.oracle import dice, edit, some_film, told
from tests.things import anything, no_moments, no_rows

FILM = (77, 2, [
    (2, [("full", 0, 4, (1, 255)), ("still", 4, 2, 1),
         ("woven", 10 ** 9, 10 ** 9, (("moved", 2, 1, 250), ("mixed", 1, 0, 2, 1))),
         ("woven", 8, 3, (("plain", 0), ("moved", 3, 0, 0)))],
     [edit(3, 0, 1), edit(Fraction(1, 3)), edit(2, Fraction(5, 2), Fraction(10 ** 30, 10 ** 30 - 1))]),
    (10 ** 6, [], []),
    (1, [], [edit(1)]),
])
LINES = [
    "film 77 2", "lane 2", "full 0 4 1 255", "still 4 2 1", "woven 1000000000 1000000000 2:1+250 1:0/2:1",
    "woven 8 3 0 3:0+0", "edit 3 0 1", "edit 1/3 - 0",
    "edit 2 5/2 1000000000000000000000000000000/999999999999999999999999999999", "lane 1000000", "lane 1", "edit 1 - 0",
]
TEXT = "\n".join(LINES)


def no_texts():
    """Things that are no texts."""
    found = [thing for thing in anything() if type(thing) is not str]
    return found + [b"film 77 2", LINES, tuple(LINES), TEXT.encode()]


def word_by_hand(moment):
    """The word of a moment, by Python's own fractions."""
    return str(Fraction(*moment))


def lines_by_hand(told_film):
    """The lines of a film as told."""
    seal, wide, lanes = told_film
    lines = [f"film {seal} {wide}"]
    for units, leaves, edits in lanes:
        lines.append(f"lane {units}")
        for kind, begin, span, held in leaves:
            words = [held] if kind == "still" else held if kind == "full" else [rule_by_hand(rule) for rule in held]
            lines.append(" ".join([kind, str(begin), str(span)] + [str(word) for word in words]))
        for span, start, rate in edits:
            start_word = "-" if start is None else word_by_hand(start)
            lines.append(f"edit {word_by_hand(span)} {start_word} {word_by_hand(rate)}")
    return lines


def rule_by_hand(rule):
    """The word of a rule as told."""
    if rule[0] == "plain":
        return str(rule[1])
    if rule[0] == "moved":
        return f"{rule[1]}:{rule[2]}+{rule[3]}"
    return f"{rule[1]}:{rule[2]}/{rule[3]}:{rule[4]}"


class TextCase(unittest.TestCase):
    def assert_none(self, deed, thing):
        with self.assertRaises(NoText, msg=thing[:200] if type(thing) is str else None):
            deed(thing)

    def assert_line_none(self, place, line):
        """The text with another line in one place is none."""
        self.assert_none(read_text, "\n".join(LINES[:place] + [line] + LINES[place + 1:]))


class Written(TextCase):
    def test_written_out(self):
        self.assertEqual(film_text(film_of(FILM)), TEXT)
        self.assertEqual(film_text(film=film_of((0, 1, [(1, [], [])]))), "film 0 1\nlane 1")
        self.assertEqual(read_text(text=TEXT), film_of(FILM))

    def test_by_chance(self):
        for seed in range(80):
            told_film = some_film(seed, 4, 8)
            text = film_text(film_of(told_film))
            self.assertEqual(text, "\n".join(lines_by_hand(told_film)))
            self.assertEqual(read_text(text).told(), told_film)

    def test_rules(self):
        for rule in (("plain", 0), ("plain", 255), ("moved", 1, 0, 0), ("moved", 200, 15, 255), ("mixed", 1, 2, 3, 4),
                     ("mixed", 200, 15, 200, 15)):
            self.assertEqual(str(rule_of(rule)), rule_by_hand(rule))

    def test_the_longest_film(self):
        rules = tuple([("mixed", 100, cell, 100, 15) for cell in range(16)])
        leaves = [("full", number, 1, (255,) * 16) for number in range(100)]
        leaves += [("woven", 10 ** 9 - number, 1, rules) for number in range(100)]
        edits = [edit(Fraction(10 ** 30 - 1, 10 ** 30), Fraction(10 ** 30, 10 ** 30 - 1), 1)] * 60
        told_film = (10 ** 9, 16, [(10 ** 6, leaves, edits)] * 8)
        text = film_text(film_of(told_film))
        self.assertEqual(text, "\n".join(lines_by_hand(told_film)))
        self.assertEqual(read_text(text).told(), told_film)


class Read(TextCase):
    def test_no_texts(self):
        for thing in no_texts():
            self.assert_none(read_text, thing)

    def test_lines_left_out_told_twice_put_in_and_in_another_order(self):
        changed = []
        for at in range(len(LINES)):
            changed.append(LINES[:at] + LINES[at + 1:])
            changed.append(LINES[:at + 1] + LINES[at:])
            changed.append(LINES[:at] + [""] + LINES[at:])
            changed.append(LINES[:at] + LINES[at:at + 2][::-1] + LINES[at + 2:])
        # Edits, lanes and some leaves may be left out or told twice: then it is another film's text.
        for lines in changed:
            self.assert_only_if_right("\n".join(lines))
        for lines in (LINES[1:], LINES[:1], ["film 77 2"] + LINES, LINES + ["film 77 2"], [""] + LINES, LINES + [""],
                      LINES[:2] + ["edit 1 - 0"] + LINES[2:], LINES[:1] + LINES[2:], LINES[::-1], LINES[:3] + LINES[2:],
                      LINES[:2] + LINES[3:]):
            self.assert_none(read_text, "\n".join(lines))

    def test_each_sign_changed_left_out_or_put_in(self):
        text = "film 7 2\nlane 3\nfull 0 4 10 2\nwoven 9 1 1:0+5 1:0/1:1\nstill 20 3 2\nedit 1/2 - 0\nedit 3 5/2 1"
        told_film = read_text(text).told()
        for at in range(len(text) + 1):
            for sign in " 0159/:+-;\nafl~.":
                for changed in (text[:at] + sign + text[at:], text[:at] + sign + text[at + 1:]):
                    self.assert_only_if_right(changed)
            self.assert_only_if_right(text[:at] + text[at + 1:])
        self.assertEqual(read_text(text).told(), told_film)

    def assert_only_if_right(self, text):
        """Where the text is read at all it is just the text of what is read."""
        try:
            film = read_text(text)
        except NoText:
            return
        self.assertEqual("\n".join(lines_by_hand(film.told())), text)

    def test_words(self):
        for place, lines in (
            (0, ["film", "film 77", "film 77 2 1", "film 77 2 ", " film 77 2", "film  77 2", "film 77  2", "Film 77 2",
                 "film 077 2", "film +77 2", "film -77 2", "film 77 02", "film 77 0", "film 77 17", "film 1000000001 2",
                 "film 7_7 2", "film 77.0 2", "film 77/1 2", "film x 2", "film 77 2\t", "77 2", "", "film\t77 2"]),
            (1, ["lane", "lane 0", "lane 02", "lane 2 ", "lane 2 2", "lane  2", " lane 2", "lane 1000001", "lane -2",
                 "lane 2/1", "Lane 2", "lanes 2", ""]),
            (2, ["full 0 4 1", "full 0 4 1 255 1", "full 0 4 1 256", "full 0 4 1 -5", "full 0 4 1 1:0+1", "full 0 4",
                 "full 0", "full", "full 0 0 1 255", "full 00 4 1 255", "full 0 4 01 255", "full 0 4 1  255",
                 "full 0 4 1 255 ", " full 0 4 1 255", "full 1000000001 4 1 255", "full 0 1000000001 1 255",
                 "full 0 4 1,255", "still 0 4 1", "woven 0 4 1:0+1 1"]),
            (3, ["still 4 2", "still 4 2 0", "still 4 2 2", "still 4 2 201", "still 4 2 1 1", "still 4 2 01",
                 "still 4 2 1:0+0", "still 4 2 1 ", "still 3 2 1", "Still 4 2 1"]),
            (4, ["woven 1000000000 1000000000 2:1+250", "woven 8 3 2:1+256 1:0/2:1", "woven 30 3 2:1+250 1:0/2:2",
                 "woven 30 3 3:1+250 1:0/2:1", "woven 30 3 0:1+250 1:0/2:1", "woven 30 3 2:1+250 1:0/0:1",
                 "woven 30 3 2:1+ 1:0/2:1", "woven 30 3 2:1 1:0/2:1", "woven 30 3 :1+5 1:0/2:1",
                 "woven 30 3 2:+5 1:0/2:1", "woven 30 3 2:01+5 1:0/2:1", "woven 30 3 2:1+05 1:0/2:1",
                 "woven 30 3 2:1+5 1:0/", "woven 30 3 2:1+5 1:0/2", "woven 30 3 2:1+5 1:0/2:1/1:0",
                 "woven 30 3 2:1+5+1 1:0/2:1", "woven 30 3 2:1:1+5 1:0/2:1", "woven 30 3 2:1+5 1:0+2:1",
                 "woven 30 3 2:1+5 1/2", "woven 30 3 -1 5", "woven 30 3 256 5", "woven 30 3 2:1+1/1:0 5",
                 "woven 30 3 2:1/1:0+5 5", "woven 30 3", "woven 30 3 "]),
            (6, ["edit 3 0", "edit 3 0 1 1", "edit 0 0 1", "edit 3 0 -", "edit - 0 1", "edit 6/2 0 1", "edit 3/1 0 1",
                 "edit 3 0/1 1", "edit 3 0 2/2", "edit 3 0 1/0", "edit 3 -0 1", "edit -3 0 1", "edit 3 0 1 ",
                 "edit  3 0 1", "edit 03 0 1", "edit 3 00 1", "edit 3 0 01", "edit 3 0 1/02", "edit 3 0 1/",
                 "edit 3 0 /2", "edit 3 0 1//2", "edit 3 - 1", "edit", "edits 3 0 1", "edit 3 0 1.5", "edit 3,0,1",
                 "edit 3 0 1/2/3"]),
        ):
            for line in lines:
                self.assert_line_none(place, line)
        self.assertEqual(read_text(TEXT), film_of(FILM))

    def test_line_feeds(self):
        for text in (TEXT + "\n", "\n" + TEXT, TEXT.replace("\n", "\n\n", 1), TEXT.replace("\n", "; "), TEXT + " ",
                     " " + TEXT, TEXT.replace("\n", " \n", 1), TEXT.replace("\n", "\n ", 1), TEXT.replace("\n", "\r\n"),
                     "", "\n", " "):
            self.assert_none(read_text, text)

    def test_numbers_of_sixty_figures_and_more(self):
        for many in (10, 31, 60, 61, 1000, 5000, 100000):
            figures = "1" * many
            for line in (f"film {figures} 2", f"film 77 {figures}"):
                self.assert_line_none(0, line)
            self.assert_line_none(1, f"lane {figures}")
            self.assert_line_none(2, f"full {figures} 4 1 255")
            self.assert_line_none(3, f"still 4 2 {figures}")
            self.assert_line_none(4, f"woven 30 3 {figures}:0+1 1")
        for many in (32, 60, 61, 1000, 5000, 100000):
            self.assert_line_none(6, f"edit {'1' * many} 0 1")
            self.assert_line_none(6, f"edit 3 1/{'1' * many} 1")

    def test_what_is_no_film(self):
        for lines in (["film 1 1"], ["film 1 1"] + ["lane 1"] * 9, ["film 1 1", "lane 1", "full 0 2 1", "full 1 2 1"],
                      ["film 1 1", "lane 1"] + [f"full {k} 1 1" for k in range(201)],
                      ["film 1 1", "lane 1"] + ["edit 1 0 1"] * 61, ["film 1 1", "lane 1", "still 0 1 1"]):
            self.assert_none(read_text, "\n".join(lines))
        for lines in (["film 1 1"] + ["lane 1"] * 8, ["film 1 1", "lane 1"] + [f"full {k} 1 1" for k in range(200)],
                      ["film 1 1", "lane 1"] + ["edit 1 0 1"] * 60):
            self.assertEqual(film_text(read_text("\n".join(lines))), "\n".join(lines))

    def test_long_texts(self):
        for text in ("a" * 2000000, " " * 2000000, "\n" * 2000000, "film 1 1\n" + "lane 1\n" * 280000,
                     "film 1 1\nlane 1\nfull 0 1" + " 1" * 900000, "film 1 1\nlane 1" + "\nedit 1 0 1" * 100000,
                     "film 1 1\nlane 1" + "\nfull 0 1 1" * 100000, "film " + "9" * 1999990):
            self.assert_none(read_text, text)


class Moments(TextCase):
    def test_words(self):
        for moment, word in (((0, 1), "0"), ((1, 1), "1"), ((3, 2), "3/2"), ((10, 7), "10/7"),
                             ((10 ** 59, 1), "1" + "0" * 59), ((1, 10 ** 60 - 1), "1/" + "9" * 60),
                             ((10 ** 60 - 1, 10 ** 60 - 2), "9" * 60 + "/" + "9" * 59 + "8")):
            self.assertEqual(moment_word(moment), word)
            self.assertEqual(read_moment(word), moment)
        self.assertEqual(moment_word(moment=(1, 2)), "1/2")
        self.assertEqual(read_moment(word="1/2"), (1, 2))

    def test_by_chance(self):
        chance = dice(1)
        for turn in range(300):
            moment = told(Fraction(chance.randrange(10 ** chance.randint(1, 60)),
                                   chance.randint(1, 10 ** chance.randint(1, 60) - 1)))
            self.assertEqual(moment_word(moment), word_by_hand(moment))
            self.assertEqual(read_moment(moment_word(moment)), moment)

    def test_many_figures(self):
        for many in (61, 100, 1800, 3999):
            top, bottom = 10 ** many + 1, 10 ** many
            self.assertEqual(moment_word((top, bottom)), str(top) + "/" + str(bottom))
            self.assert_none(read_moment, moment_word((top, 1)))
            self.assert_none(read_moment, moment_word((1, bottom)))
        edits = [edit(Fraction(1, 10 ** 29 + 2 * k + 1)) for k in range(60)]
        length = film_of((1, 1, [(1, [], edits)])).length()
        self.assertEqual(moment_word(length), f"{length[0]}/{length[1]}")

    def test_no_moment(self):
        for wrong in no_moments():
            with self.assertRaises(NoMoment):
                moment_word(wrong)

    def test_words_that_are_none(self):
        for word in ("", " ", "-", "-1", "+1", "01", "00", "1/", "/1", "/", "1/1", "0/1", "2/4", "1/0", "0/0", "0/5",
                     "4/2", "1/2/3", "1//2", " 1", "1 ", "1 /2", "1/ 2", "1/-2", "-1/2", "1/02", "01/2", "1.5", "1e5",
                     "0x1", "1_0", "1\n", "\n1", "1/2\n", "a", "one", "1:2", "1,2", "9" * 61, "1/" + "1" + "0" * 60,
                     "1" + "0" * 60 + "/3", "9" * 5000, "1/" + "7" * 5000, "9" * 2000000, "\u0661", "\u00b2",
                     "1/\u0662"):
            self.assert_none(read_moment, word)
        for thing in no_texts():
            self.assert_none(read_moment, thing)
        for thing in anything():
            if thing not in ("0", "1", "7") if type(thing) is str else True:
                self.assert_none(read_moment, thing)


class Hex(TextCase):
    def test_each_byte(self):
        for byte in range(256):
            self.assertEqual(hex_of([byte]), f"{byte:02x}")
            self.assertEqual(bytes_of(f"{byte:02x}"), [byte])
        self.assertEqual(hex_of(list(range(256))), bytes(range(256)).hex())
        self.assertEqual(bytes_of(text=bytes(range(256)).hex()), list(range(256)))
        self.assertEqual(hex_of(row=[]), "")
        self.assertEqual(bytes_of(""), [])

    def test_all_pairs_of_signs(self):
        signs = [chr(code) for code in range(32, 127)] + ["\n"]
        right = "0123456789abcdef"
        for one in signs:
            self.assert_none(bytes_of, one)
            for other in signs:
                if one in right and other in right:
                    self.assertEqual(bytes_of(one + other), [int(one + other, 16)])
                else:
                    self.assert_none(bytes_of, one + other)
                    self.assert_none(bytes_of, "00" + one + other)

    def test_texts_that_are_none(self):
        for text in ("0", "000", "0g", "AB", "aB", "0x00", " 00", "00 ", "00 00", "00\n", "-1", "f" * 999, "zz" * 1000):
            self.assert_none(bytes_of, text)
        for thing in no_texts():
            self.assert_none(bytes_of, thing)

    def test_no_bytes(self):
        for wrong in no_rows():
            with self.assertRaises(NoBytes):
                hex_of(wrong)

    def test_long_rows(self):
        row = [dice(2).randrange(256) for byte in range(1000)] * 1000
        text = hex_of(row)
        self.assertEqual(text, bytes(row).hex())
        self.assertEqual(bytes_of(text), row)
        self.assert_none(bytes_of, text[:-1] + "A")

    def test_the_row_stays_and_lists_are_new(self):
        row = [1, 2]
        hex_of(row)
        self.assertEqual(row, [1, 2])
        bytes_of("0102").clear()
        self.assertEqual(bytes_of("0102"), [1, 2])


if __name__ == "__main__":
    unittest.main()
