"""The desk, points 52 and 53."""

import unittest

from lanescroll.cuts import beside, cut, edited, join
from lanescroll.desk import Desk
from lanescroll.errors import (
    NoEdits, NoFilm, NoHead, NoLane, NoMany, NoMatch, NoMoment, NoName, NoRow, NoSeal, NoText, TooMuch,
)
from lanescroll.files import write
from lanescroll.films import film_of
from lanescroll.gather import Gather
from lanescroll.seeker import Seeker
from lanescroll.texts import film_text, hex_of
from tests.byhand import head_box, head_of, piece_box
from tests.oracle import dice, edit, some_film
from tests.things import anything

LEAVES = [("full", 0, 2, (1, 2)), ("woven", 2, 2, (("moved", 1, 1, 5), ("plain", 7))), ("still", 6, 2, 1)]
FILM = (77, 2, [(1, LEAVES, [edit(9, 0, 1)]), (3, [("full", 0, 3, (9, 8))], [edit(2, 0, 1)])])
OTHER = (78, 2, [(1, [("full", 0, 1, (3, 4))], [edit(1, 0, 1)]), (3, [], [])])
NARROW = (79, 1, [(1, [("full", 0, 1, (3,))], [edit(1, 0, 1)])])
EMPTY = (80, 1, [(1, [], [])])
SIXTY = "9" * 60

# Each row with words of its own, all in order: names that are there, numbers, moments, texts.
ROWS = [
    "film new film 1 1; lane 1", "text a", "cut new a 1 2", "join new a b", "beside new a b", "edited new a 1,0,1",
    "salvage new g", "shown a 0 1", "shown g 0 1", "seek a 2 0 1", "file a 8", "gather new 5", "take g 00", "lost g 0",
    "whole g", "names",
]


def lines_of(told_film):
    """The lines of a film as told, as the desk takes and tells them."""
    return film_text(film_of(told_film)).replace("\n", "; ")


def desk_with():
    """A desk with films a, b, n, e and a gather g that has the head and a leaf of a, and h that has nothing."""
    desk = Desk()
    for name, told_film in (("a", FILM), ("b", OTHER), ("n", NARROW), ("e", EMPTY)):
        desk.say(f"film {name} {lines_of(told_film)}")
    desk.say("gather g 77")
    desk.say("take g " + hex_of(head_box(head_of(FILM)) + piece_box((77, 0, 1, LEAVES[1:2]))))
    desk.say("gather h 77")
    return desk


def state(desk):
    """All that a desk tells of its films and gathers."""
    found = [desk.say("names")]
    for name in ("a", "b", "n", "e"):
        found.append(desk.say(f"text {name}"))
    return found + [desk.say("lost g 0"), desk.say("lost g 1"), desk.say("whole g"), desk.say("shown g 0 2")]


class DeskCase(unittest.TestCase):
    def setUp(self):
        self.desk = desk_with()

    def assert_refused(self, refusal, *rows):
        """The rows are refused so, and change nothing."""
        before = state(self.desk)
        for row in rows:
            with self.subTest(row=row if type(row) is str else None):
                with self.assertRaises(refusal) as caught:
                    self.desk.say(row)
                self.assertIs(type(caught.exception), refusal)
        self.assertEqual(state(self.desk), before)

    def assert_film(self, name, film):
        """The name leads to this film."""
        self.assertEqual(self.desk.say(f"text {name}"), film_text(film).replace("\n", "; "))


class Answers(DeskCase):
    def test_films_and_texts(self):
        self.assertEqual(self.desk.say(f"film c {lines_of(FILM)}"), "ok")
        self.assertEqual(self.desk.say("text c"), lines_of(FILM))
        self.assertEqual(self.desk.say("text e"), "film 80 1; lane 1")
        self.assertEqual(self.desk.say(row="text n"), "film 79 1; lane 1; full 0 1 3; edit 1 0 1")
        for seed in range(20):
            told_film = some_film(seed, 3, 5)
            self.assertEqual(self.desk.say(f"film c {lines_of(told_film)}"), "ok")
            self.assertEqual(self.desk.say("text c"), lines_of(told_film))

    def test_cuts(self):
        film, other = film_of(FILM), film_of(OTHER)
        for row, right in (
            ("cut c a 1 3/2", cut(film, (1, 1), (3, 2))), ("cut c a 0 100", cut(film, (0, 1), (100, 1))),
            ("join c a b", join(film, other)), ("join c b a", join(other, film)), ("join c a a", join(film, film)),
            ("beside c a b", beside(film, other)), ("beside c b b", beside(other, other)),
            ("edited c a -", edited(film, [])), ("edited c a 1,0,1", edited(film, [edit(1, 0, 1)])),
            ("edited c a 1/2,3/2,0;1,-,0;2,0,3/2",
             edited(film, [((1, 2), (3, 2), (0, 1)), edit(1), ((2, 1), (0, 1), (3, 2))])),
        ):
            self.assertEqual(self.desk.say(row), "ok")
            self.assert_film("c", right)
        self.assertEqual(self.desk.say("text a"), lines_of(FILM))
        self.assertEqual(self.desk.say("cut a a 1 2"), "ok")
        self.assert_film("a", cut(film, (1, 1), (2, 1)))

    def test_shown_of_films(self):
        for t, right in (("0", "0 1 2"), ("1/2", "0 1 2"), ("2", "1 7 7"), ("4", "blank"), ("6", "2 7 7"),
                         ("9", "blank"), (SIXTY, "blank"), ("99999/50000", "0 1 2")):
            self.assertEqual(self.desk.say(f"shown a 0 {t}"), right)
        self.assertEqual(self.desk.say("shown a 1 1/3"), "0 9 8")
        self.assertEqual(self.desk.say("shown e 0 0"), "blank")

    def test_shown_of_gathers(self):
        for t, right in (("0", "unknown"), ("2", "1 ? 7"), ("4", "unknown"), ("9", "blank"), ("100", "blank")):
            self.assertEqual(self.desk.say(f"shown g 0 {t}"), right)
        self.desk.say("take g " + hex_of(write(film_of(FILM))))
        for t, right in (("0", "0 1 2"), ("2", "1 7 7"), ("4", "blank"), ("9", "blank")):
            self.assertEqual(self.desk.say(f"shown g 0 {t}"), right)

    def test_seek(self):
        film = film_of(FILM)
        for many in (1, 2, 3, 8, 200):
            for lane in (0, 1):
                for t in range(10):
                    seeker = Seeker(write(film, many))
                    told_shown = seeker.shown(lane, (t, 1))
                    words = ["blank"] if told_shown == ("blank",) else list(told_shown[1:2] + told_shown[2])
                    right = " ".join(str(word) for word in words + ["/"] + seeker.opened())
                    self.assertEqual(self.desk.say(f"seek a {many} {lane} {t}"), right)
        head = len(head_box(head_of(EMPTY)))
        self.assertEqual(self.desk.say("seek e 8 0 0"), f"blank / 0 {2 * head}")

    def test_files_and_gathers(self):
        film = film_of(FILM)
        for many in (1, 2, 8, 200):
            self.assertEqual(self.desk.say(f"file a {many}"), hex_of(write(film, many)))
        self.assertEqual(self.desk.say("gather c 77"), "ok")
        row = write(film, 1)
        right = Gather(77).take(row)
        self.assertEqual(self.desk.say("take c " + hex_of(row)), " ".join(str(place) for place in right))
        self.assertEqual(self.desk.say("take c " + hex_of(row[:10])), "-")
        self.assertEqual(self.desk.say("take c "), "-")
        self.assertEqual(self.desk.say("whole c"), "yes")
        self.assertEqual([self.desk.say("lost c 0"), self.desk.say("lost c 1")], ["-", "-"])
        self.assertEqual([self.desk.say("lost g 0"), self.desk.say("lost g 1")], ["0 2", "0"])
        self.assertEqual(self.desk.say("whole g"), "no")
        self.assertEqual(self.desk.say("take g " + hex_of(piece_box((77, 0, 0, LEAVES[:1])))), "0")
        self.assertEqual(self.desk.say("lost g 0"), "2")
        for seal in ("0", "1000000000"):
            self.assertEqual(self.desk.say(f"gather c {seal}"), "ok")

    def test_salvage(self):
        self.assertEqual(self.desk.say("salvage c g"), "ok")
        self.assertEqual(self.desk.say("text c"), "film 77 2; lane 1; edit 9 0 1; lane 3; edit 2 0 1")
        self.desk.say("take g " + hex_of(piece_box((77, 0, 0, LEAVES[:1]))))
        self.assertEqual(self.desk.say("salvage c g"), "ok")
        lines = "film 77 2; lane 1; full 0 2 1 2; full 2 2 7 7; edit 9 0 1; lane 3; edit 2 0 1"
        self.assertEqual(self.desk.say("text c"), lines)

    def test_names(self):
        self.assertEqual(Desk().say("names"), "-")
        self.assertEqual(self.desk.say("names"), "a b e g h n")
        self.desk.say("gather zz 1")
        self.desk.say("gather aa 1")
        self.assertEqual(self.desk.say("names"), "a aa b e g h n zz")

    def test_names_made_anew(self):
        self.desk.say("gather a 77")
        self.assertEqual(self.desk.say("names"), "a b e g h n")
        self.assertEqual(self.desk.say("take a "), "-")
        with self.assertRaises(NoName):
            self.desk.say("text a")
        self.desk.say(f"film g {lines_of(OTHER)}")
        self.assertEqual(self.desk.say("text g"), lines_of(OTHER))
        for row in ("lost g 0", "take g 00", "whole g", "salvage c g"):
            with self.assertRaises(NoName):
                self.desk.say(row)
        self.desk.say("gather g 77")
        with self.assertRaises(NoHead):
            self.desk.say("lost g 0")
        self.desk.say(f"film b {lines_of(FILM)}")
        self.assertEqual(self.desk.say("text b"), lines_of(FILM))

    def test_words_that_are_names_too(self):
        for name in ("film", "text", "cut", "names", "gather", "take", "seek", "x", "abcdefgh", "blank"):
            self.assertEqual(self.desk.say(f"film {name} {lines_of(OTHER)}"), "ok")
            self.assertEqual(self.desk.say(f"text {name}"), lines_of(OTHER))
            self.assertEqual(self.desk.say(f"join join {name} {name}"), "ok")
            self.assertEqual(self.desk.say(f"gather {name} 9"), "ok")
            self.assertEqual(self.desk.say(f"take {name} "), "-")

    def test_two_desks_by_turns(self):
        one, other = Desk(), Desk()
        one.say("film a film 1 1; lane 1")
        self.assertEqual([one.say("names"), other.say("names")], ["a", "-"])
        other.say("film a film 2 1; lane 1")
        self.assertEqual([one.say("text a"), other.say("text a")], ["film 1 1; lane 1", "film 2 1; lane 1"])
        one.say("gather g 77")
        other.say("gather g 77")
        one.say("take g " + hex_of(head_box(head_of(FILM))))
        self.assertEqual(one.say("lost g 1"), "0")
        with self.assertRaises(NoHead):
            other.say("lost g 1")

    def test_films_stay_when_what_they_were_made_of_is_made_anew(self):
        self.desk.say("join c a b")
        right = self.desk.say("text c")
        self.desk.say("film a film 1 1; lane 1")
        self.desk.say("gather b 1")
        self.assertEqual(self.desk.say("text c"), right)


class NoRows(DeskCase):
    def test_what_is_no_text(self):
        self.assert_refused(NoRow, *[thing for thing in anything() if type(thing) is not str], b"names", ["names"],
                            ("names",))

    def test_first_words(self):
        self.assert_refused(NoRow, "", " ", "  ", "a", "Names", "NAMES", "name", "nam", "names\n", "\nnames", "film\n",
                            "films a x", "ok", "only c a 0", "read a", "play a 1", "names;", "-", "texts a", "shown",
                            "0", "film77 1 1")

    def test_how_many_words(self):
        self.assert_refused(NoRow, " names", "names ", "names a", "names  ")
        for row in ROWS:
            words = row.split(" ")
            if words[0] in ("film", "names"):
                continue
            wrongs = [row + " ", row + " x", row + "  ", " " + row, row + " a 0 0", words[0], words[0] + " "]
            wrongs += [" ".join(words[:at] + [""] + words[at:]) for at in range(1, len(words))]
            wrongs += [" ".join(words[:at] + words[at + 1:]) for at in range(1, len(words))]
            if len(words) == 2:
                wrongs.remove(words[0] + " ")
            self.assert_refused(NoRow, *wrongs)

    def test_films_without_lines(self):
        self.assert_refused(NoRow, "film", "film a", "film x", "film ")
        self.assert_refused(NoText, "film a ", "film x  ", "film x x")
        self.assert_refused(NoName, "film  ", "film  film 1 1; lane 1", "film  x")

    def test_numbers(self):
        wrongs = ("x", "-1", "+1", "01", "00", "1/2", "1.0", "1\n", "a", "-", "?", "9" * 61, "1" + "0" * 60, "0" * 61,
                  "1_0", "0x1", "9" * 5000)
        for wrong in wrongs:
            self.assert_refused(NoRow, f"shown a {wrong} 1", f"shown g {wrong} 1", f"seek a {wrong} 0 1",
                                f"seek a 8 {wrong} 1", f"file a {wrong}", f"gather new {wrong}", f"lost g {wrong}")
        self.assert_refused(NoLane, f"shown a {SIXTY} 1", f"shown g {SIXTY} 1", f"seek a 8 {SIXTY} 1",
                            f"lost g {SIXTY}", "shown a 2 1", "shown g 2 1", "seek a 8 2 1", "lost g 2")
        self.assert_refused(NoMany, f"file a {SIXTY}", f"seek a {SIXTY} 0 1", "file a 0", "file a 201", "seek a 0 0 1",
                            "seek a 201 0 1")
        self.assert_refused(NoSeal, f"gather new {SIXTY}", "gather new 1000000001")


class NoNames(DeskCase):
    def test_names_that_are_none(self):
        for wrong in ("A", "a1", "1", "abcdefghi", "a-b", "a_b", "a.b", "-", "aB", "a\n", "\na", "?", "a;", "\u00e9",
                      "a\u00e9"):
            self.assert_refused(NoName, f"film {wrong} {lines_of(FILM)}", f"text {wrong}", f"cut {wrong} a 1 2",
                                f"cut new {wrong} 1 2", f"join {wrong} a b", f"join new {wrong} b",
                                f"join new a {wrong}", f"beside {wrong} a b", f"beside new {wrong} b",
                                f"beside new a {wrong}", f"edited {wrong} a -", f"edited new {wrong} -",
                                f"salvage {wrong} g", f"salvage new {wrong}", f"shown {wrong} 0 1",
                                f"seek {wrong} 8 0 1", f"file {wrong} 8", f"gather {wrong} 7", f"take {wrong} 00",
                                f"take {wrong} ", f"lost {wrong} 0", f"whole {wrong}")
        # Words without signs stand between blanks; as names they are none.
        self.assert_refused(NoName, "text ", "cut  a 1 2", "cut new  1 2", "join  a b", "join new a ", "shown  0 1",
                            "whole ", "gather  7", "take  00", "lost  0")

    def test_names_that_lead_to_nothing(self):
        self.assert_refused(NoName, "text x", "cut new x 1 2", "join new x a", "join new a x", "beside new x a",
                            "beside new a x", "edited new x -", "salvage new x", "shown x 0 1", "seek x 8 0 1",
                            "file x 8", "take x 00", "lost x 0", "whole x", "text new")

    def test_films_and_gathers_in_each_others_place(self):
        self.assert_refused(NoName, "text g", "cut new g 1 2", "join new g a", "join new a g", "beside new g a",
                            "beside new a g", "edited new g -", "seek g 8 0 1", "file g 8", "salvage new a",
                            "take a 00", "lost a 0", "whole a")


class NoTexts(DeskCase):
    def test_moments(self):
        for wrong in ("", "x", "-1", "1/1", "2/4", "01", "1.5", "1\n", "1/0", "-", "9" * 61, "1/" + "9" * 61):
            self.assert_refused(NoText, f"cut new a {wrong} 2", f"cut new a 1 {wrong}", f"shown a 0 {wrong}",
                                f"shown g 0 {wrong}", f"seek a 8 0 {wrong}")
        self.assertEqual(self.desk.say(f"shown a 0 1/{SIXTY}"), "0 1 2")

    def test_edits(self):
        for wrong in ("", "1", "1,0", "1,0,1,1", "1,0,1;", ";1,0,1", ";", ",", ",,", "1,0,1;;1,0,1", "1,,1", ",0,1",
                      "1,0,", "-,0,1", "1,0,-", "-;-", "--", "1,0,1;-", "2/4,0,1", "1,0/1,1", "1,0,01", "x", "1;0;1",
                      "1,0,1,", "1,-1,1", "1,0,1\n", "1," + "9" * 61 + ",1", "(1,0,1)", "1/1,0,1"):
            self.assert_refused(NoText, f"edited new a {wrong}")
        self.assert_refused(NoEdits, "edited new a 0,0,1", "edited new a 1,-,1", "edited new a 1,0,1;0,-,0",
                            "edited new a 0,-,0", "edited new a 1,-,1/2")

    def test_lines(self):
        right = lines_of(OTHER)
        for wrong in ("", " ", right + " ", " " + right, right + "; ", right + ";", right.replace("; ", ";"),
                      right.replace("; ", " ;"), right.replace("; ", ";  "), right.replace("; ", "; ; "),
                      right.replace("; ", "\n"), right.replace("; ", "\n", 1), right + "\n", "film 1 1", "lane 1",
                      "film 1 1; lane 0", "film 1 1; lane 1; full 0 1 1; full 0 1 1", "film 1 1;\nlane 1",
                      "; " + right):
            self.assert_refused(NoText, f"film new {wrong}")

    def test_hex(self):
        self.assert_refused(NoText, "take g 0", "take g 000", "take g 0G", "take g AB", "take g -", "take g 0x",
                            "take g 00\n", "take h zz")


class Deeds(DeskCase):
    def test_refusals_of_deeds(self):
        self.assert_refused(NoMoment, "cut new a 2 2", "cut new a 3 2", "cut new a 0 0")
        self.assert_refused(NoMatch, "join new a n", "join new n a", "beside new a n", "join new e a", "join new a e")
        self.assert_refused(TooMuch, f"cut new a 1/{SIXTY} 1", f"edited new a 1,0,1/{SIXTY}")
        self.assert_refused(NoHead, "shown h 0 1", "shown h 9 1", "lost h 0", "lost h 9", "whole h", "salvage new h")
        self.desk.say("beside c a b")
        self.desk.say("beside d c c")
        with self.assertRaises(TooMuch):
            self.desk.say("beside new d a")
        self.desk.say("gather t 5")
        together = piece_box((5, 0, 0, [("full", 0, 2, (1,))] * 2))
        self.desk.say("take t " + hex_of(head_box((5, 1, [(1, 2, [])])) + together))
        with self.assertRaises(NoFilm) as caught:
            self.desk.say("salvage new t")
        self.assertEqual((caught.exception.lane, caught.exception.leaf), (0, 1))
        self.assertEqual(self.desk.say("names"), "a b c d e g h n t")

    def test_what_a_refused_row_leaves(self):
        for row in ("film a film 1 1", "cut a a 2 1", "join a a n", "beside a n a", "edited a a 0,0,0", "salvage a h",
                    "gather a 1000000001", "film a ", "cut a a x 1", "join a a x"):
            with self.assertRaises(ValueError):
                self.desk.say(row)
            self.assertEqual(self.desk.say("text a"), lines_of(FILM))
        self.assertEqual(self.desk.say("names"), "a b e g h n")


class Order(DeskCase):
    def test_no_row_ahead_of_no_name(self):
        self.assert_refused(NoRow, "shown x y 1", "shown A -1 1", "seek x 01 0 1", "seek x 8 y 1", "file x y",
                            "gather A y", "lost x y", "cut A x 1", "join A B", "text A B", "whole A B", "take A",
                            "film A")

    def test_no_row_ahead_of_no_text(self):
        self.assert_refused(NoRow, "shown a y z", "seek a 8 y z", "seek a y 0 z", "take g 0 0", "cut new a x y z",
                            "edited new a x y")

    def test_no_row_ahead_of_the_deed(self):
        self.assert_refused(NoRow, "seek a 0 y 1", "seek a y 9 1", "shown a 99 1 1", "cut new a 2 1 0")

    def test_no_name_ahead_of_no_text(self):
        self.assert_refused(NoName, "film A x", "film A ", "cut A a x y", "cut new x x y", "edited A a x",
                            "edited new x x", "edited new g x", "shown x 0 y", "seek x 8 0 y", "take x zz", "take a zz",
                            "take A zz")

    def test_no_name_ahead_of_the_deed(self):
        self.assert_refused(NoName, "cut A a 2 1", "cut new x 2 1", "join A a n", "join new x n", "beside A a n",
                            "edited A a 0,0,0", "edited new x 0,0,0", "salvage A h", "shown x 99 1", "seek x 0 99 1",
                            "file x 0", f"gather A {SIXTY}", "lost x 99")

    def test_no_text_ahead_of_the_deed(self):
        self.assert_refused(NoText, "cut new a 2 x", "cut new a x 0", "edited new a 0,0,0;x", "shown a 99 x",
                            "shown g 99 x", "shown h 0 x", "seek a 0 0 x", "seek a 0 99 x", "seek a 8 99 x")

    def test_the_deeds_own_order(self):
        self.assert_refused(NoMany, "seek a 0 99 1", "seek a 201 99 1")
        self.assert_refused(NoLane, "seek a 8 99 1")
        self.assert_refused(NoHead, "shown h 99 1")
        self.assert_refused(NoEdits, f"edited new a 0,0,1/{SIXTY}")


class Long(DeskCase):
    def test_long_rows(self):
        self.assert_refused(NoRow, "a" * 2000000, " " * 2000000, "names" + " a" * 900000, "text " + "a " * 900000)
        self.assert_refused(NoName, "text " + "a" * 1000000)
        self.assert_refused(NoText, "film c " + "; " * 900000, "film c " + " " * 1900000)

    def test_a_long_file(self):
        row = write(film_of(FILM)) + [1] * 200000
        self.assertEqual(self.desk.say("take h " + hex_of(row)).split(" ")[0], "0")
        self.assertEqual(self.desk.say("whole h"), "yes")

    def test_many_names(self):
        names = sorted({"".join(dice(seed).choice("abc") for sign in range(5)) for seed in range(200)})
        for name in names:
            self.desk.say(f"film {name} film 1 1; lane 1")
        self.assertEqual(self.desk.say("names").split(" "), sorted(names + ["a", "b", "e", "g", "h", "n"]))


if __name__ == "__main__":
    unittest.main()
