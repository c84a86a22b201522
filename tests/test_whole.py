"""Point 3: the promises over the whole program, each one by films of chance that went through many deeds."""

import unittest
from fractions import Fraction

from lanescroll.boxes import Feed, boxes_in
from lanescroll.cuts import beside, cut, edited, join, only
from lanescroll.desk import Desk
from lanescroll.edits import mapped, over, parted, tidy
from lanescroll.errors import NoMatch, NotKnown, TooMuch
from lanescroll.files import read, write
from lanescroll.films import film_of
from lanescroll.gather import Gather
from lanescroll.pieces import ordered, pieces, read_by
from lanescroll.player import Player, changes
from lanescroll.seeker import Seeker
from lanescroll.texts import bytes_of, film_text, hex_of, read_text
from tests.byhand import box_by_hand
from tests.oracle import (
    dice, ends, hung_on, inner_points, is_tidy, led, needs, probes, rule_value, rules_of, some_edits, some_film,
    some_lane, split, told, turning_points, worth,
)


def worked(seed):
    """A film by chance that was cut, joined, edited and laid beside another one."""
    chance = dice(seed)
    seal, wide, lanes = some_film(seed, 2, 5)
    film = film_of((seal, wide, lanes))
    others = [(units,) + some_lane(chance, wide, chance.randint(0, 4))[1:] for units, leaves, edits in lanes]
    other = film_of((seal, wide, others))
    for turn in range(chance.randint(1, 4)):
        deed = chance.randrange(4)
        try:
            if deed == 0:
                low = Fraction(chance.randint(0, 6), 2)
                film = cut(film, told(low), told(low + Fraction(chance.randint(1, 12), 2)))
            elif deed == 1:
                film = join(film, other)
            elif deed == 2:
                film = edited(film, some_edits(chance))
            elif deed == 3:
                film = only(beside(film, other), [0, len(film)])
        except (NoMatch, TooMuch):
            pass
    return film


def torn(chance, row):
    """The row, torn in some places."""
    row = list(row)
    for turn in range(chance.randint(1, 4)):
        at = chance.randrange(len(row))
        many = chance.choice((0, 1, 1, 4))
        row[at:at + chance.choice((0, 1, 5, 30))] = [chance.randrange(256) for byte in range(many)]
    return row


def moments_of(film):
    """The moments at which what the film shows may turn, and moments about them."""
    return probes({t for lane in film.told()[2] for t in turning_points(lane)})


class Pieces(unittest.TestCase):
    def test_what_is_told_of_a_cell_and_where(self):
        for seed in range(40):
            film, chance = worked(seed), dice(seed)
            row = write(film, chance.randint(1, 3))
            boxes = [row[at:at + len(box_by_hand(kind, body))] for at, kind, body in boxes_in(row)]
            rows = [box for box in boxes[1:] if chance.random() < 0.7] + boxes[:1]
            chance.shuffle(rows)
            gather = Gather(film.seal)
            for part in rows + rows[:2]:
                gather.take(part)
            for lane in range(len(film)):
                leaves = {number: film.told_leaf(lane, number) for number in gather.came(lane)}
                for number in range(film.many(lane)):
                    for cell in range(film.wide):
                        self.assert_cell(film, gather, leaves, lane, (number, cell))

    def assert_cell(self, film, gather, leaves, lane, pair):
        whole = {number: film.told_leaf(lane, number) for number in range(film.many(lane))}
        if all(need[0] in leaves for need in hung_on(whole, film.wide, *pair)):
            self.assertEqual(gather.value(lane, *pair), film.picture(lane, pair[0])[pair[1]])
            values = {}
            for number, cell, value in gather.table(lane, *pair):
                found = [values[need] for need in needs(whole, film.wide, (number, cell))]
                values[(number, cell)] = value
                self.assertEqual(value, rule_value(rules_of(whole[number], film.wide)[cell], found))
            self.assertEqual(values[pair], gather.value(lane, *pair))
        else:
            self.assertIs(gather.value(lane, *pair), None)
            with self.assertRaises(NotKnown) as caught:
                gather.table(lane, *pair)
            way = caught.exception.way
            self.assertEqual(way[0], pair)
            for one, need in zip(way, way[1:]):
                self.assertIn(need, needs(whole, film.wide, one))
            self.assertNotIn(way[-1][0], leaves)

    def test_boxes_that_no_torn_byte_touches_come(self):
        for seed in range(40):
            film, chance = worked(seed), dice(seed)
            row = write(film, 1)
            parts = [row[at:at + len(box_by_hand(kind, body))] for at, kind, body in boxes_in(row)]
            kept = [chance.random() < 0.7 for part in parts]
            kept[0] = True
            changed = []
            for part, whole in zip(parts, kept):
                at = chance.randrange(3, len(part))
                changed += part if whole else part[:at] + [(part[at] + 1) % 256] + part[at + 1:]
            gather = Gather(film.seal)
            places = gather.take(changed)
            boxes = boxes_in(row)
            right = [at for (at, kind, body), whole in zip(boxes, kept) if whole and kind in (1, 2)]
            self.assertEqual(places, right)
            told_rows = [(at, kind, body) for (at, kind, body), whole in zip(boxes, kept) if whole]
            self.assertEqual(boxes_in(changed), told_rows)
            lost = sum(len(gather.lost(lane)) for lane in range(len(film)))
            torn_kinds = [kind for (at, kind, body), whole in zip(boxes, kept) if not whole]
            self.assertEqual(lost, torn_kinds.count(2))

    def test_boxes_however_the_bytes_are_parted(self):
        for seed in range(20):
            chance = dice(seed)
            row = torn(chance, write(worked(seed), 2))
            right = boxes_in(row)
            feed, found, at = Feed(), [], 0
            while at < len(row):
                part = row[at:at + chance.choice((1, 2, 3, 50))]
                at += len(part)
                for place, kind, body in feed.take(part):
                    self.assertGreater(place + len(box_by_hand(kind, body)), at - len(part))
                    self.assertLessEqual(place + len(box_by_hand(kind, body)), at)
                    found.append((place, kind, body))
            self.assertEqual(found, right)

    def test_no_order_has_fewer_to_be_read(self):
        for seed in range(30):
            film, chance = worked(seed), dice(seed)
            some = pieces(film, chance.randint(1, 3))
            right = ordered(film, some)
            for turn in range(8):
                chance.shuffle(some)
                for t in [(k, 2) if k % 2 else (k // 2, 1) for k in range(30)]:
                    self.assertGreaterEqual(read_by(film, some, t), read_by(film, right, t))


class Seekers(unittest.TestCase):
    def test_over_files_of_films_that_went_through_deeds(self):
        for seed in range(25):
            film, chance = worked(seed), dice(seed)
            row = write(film, chance.randint(1, 3))
            self.assertEqual(read(row), film)
            for lane in range(len(film)):
                for t in [chance.choice(moments_of(film)) for turn in range(6)]:
                    seeker = Seeker(row)
                    shown = film.shown(lane, told(t))
                    self.assertEqual(seeker.shown(lane, told(t)), ("blank",) if shown is None else ("leaf",) + shown)
                    changed = list(row)
                    for at, kind, body in boxes_in(row):
                        if at not in seeker.opened():
                            changed[at + 4] ^= 1
                    self.assertEqual(Seeker(changed).shown(lane, told(t)), seeker.shown(lane, told(t)))


class Edits(unittest.TestCase):
    def test_edits_over_edits(self):
        for seed in range(80):
            chance = dice(seed)
            outer, inner = some_edits(chance), some_edits(chance)
            found = over(outer, inner)
            self.assertTrue(is_tidy(found))
            for t in probes(ends(outer) + inner_points(outer, inner)):
                x = led(outer, t)
                right = None if x is None else led(inner, x)
                self.assertEqual(mapped(found, told(t)), None if right is None else told(right))

    def test_one_tidy_form(self):
        for seed in range(80):
            chance = dice(seed)
            one, other = some_edits(chance, 3), some_edits(chance, 3)
            like = split(chance, one)
            self.assertEqual(tidy(like), tidy(one))
            self.assertIs(parted(like, one), None)
            alike = all(led(one, t) == led(other, t) for t in probes(ends(one, other)))
            self.assertEqual(tidy(one) == tidy(other), alike)
            self.assertEqual(parted(one, other) is None, alike)


class Deeds(unittest.TestCase):
    def shown(self, film, lane, t):
        found = film.shown(lane, told(t))
        return None if found is None else found[1]

    def test_moment_for_moment(self):
        for seed in range(60):
            film, chance = worked(seed), dice(seed)
            points = moments_of(film)
            low, high = sorted(chance.sample(points[:-1], 2))
            edits = some_edits(chance)
            length = worth(film.length())
            try:
                piece = cut(film, told(low), told(high))
                twice = join(film, film)
                led_film = edited(film, edits)
            except TooMuch:
                continue
            both = beside(film, piece)
            for lane in range(len(film)):
                for t in points:
                    there = self.shown(film, lane, t)
                    if t >= low:
                        self.assertEqual(self.shown(piece, lane, t - low), there if t < high else None)
                    self.assertEqual(self.shown(twice, lane, t),
                                     there if t < length else self.shown(film, lane, t - length))
                    self.assertEqual(self.shown(twice, lane, t + length), there)
                    self.assertEqual(self.shown(both, lane, t), there)
                    self.assertEqual(self.shown(both, lane + len(film), t), self.shown(piece, lane, t))
                for t in probes(ends(edits)):
                    x = led(edits, t)
                    self.assertEqual(self.shown(led_film, lane, t), None if x is None else self.shown(film, lane, x))

    def test_a_cut_film_has_just_the_leaves_on_which_what_it_shows_hangs(self):
        for seed in range(40):
            film, chance = worked(seed), dice(seed)
            low, high = sorted(chance.sample(moments_of(film)[:-1], 2))
            try:
                piece = cut(film, told(low), told(high))
            except TooMuch:
                continue
            for lane in range(len(piece)):
                shown = {number for moment, number in changes(piece, lane, (0, 1), (10 ** 12, 1))} - {None}
                leaves = {number: piece.told_leaf(lane, number) for number in range(piece.many(lane))}
                hung = {pair for number in shown for cell in range(piece.wide)
                        for pair in hung_on(leaves, piece.wide, number, cell)}
                self.assertEqual({pair[0] for pair in hung}, set(leaves))
                for number, leaf in leaves.items():
                    for cell, rule in enumerate(leaf[3]):
                        if (number, cell) not in hung:
                            self.assertEqual(rule, ("plain", 0))


class Played(unittest.TestCase):
    def test_in_parts_and_at_once(self):
        for seed in range(40):
            film, chance = worked(seed), dice(seed)
            whole = Player(film).play((10 ** 6, 1))
            player, found = Player(film), []
            for turn in range(5):
                found += player.play(told(Fraction(chance.randint(1, 9), chance.choice((1, 2, 7)))))
            rest = worth((10 ** 6, 1)) - worth(player.at)
            self.assertEqual(found + player.play(told(rest)), whole)
            for moment, lane, number in whole:
                shown = film.shown(lane, moment)
                self.assertEqual(None if shown is None else shown[0], number)


class Together(unittest.TestCase):
    def test_there_and_back(self):
        for seed in range(30):
            film = worked(seed)
            self.assertEqual(read_text(film_text(film)), film)
            row = write(film, dice(seed).randint(1, 9))
            self.assertEqual(read(bytes_of(hex_of(row))), film)
            gather = Gather(film.seal)
            gather.take(row[::-1] + row)
            self.assertEqual(gather.film(), film)
            saved = gather.salvage()
            for lane in range(len(film)):
                self.assertEqual(saved.read(lane), film.read(lane))
            self.assertEqual(Player(saved).play((10 ** 6, 1)), Player(film).play((10 ** 6, 1)))

    def test_at_the_desk(self):
        for seed in range(15):
            film = worked(seed)
            desk = Desk()
            desk.say("film a " + film_text(film).replace("\n", "; "))
            desk.say(f"gather g {film.seal}")
            desk.say("take g " + desk.say("file a 2"))
            self.assertEqual(desk.say("whole g"), "yes")
            desk.say("salvage s g")
            for lane in range(len(film)):
                for t in range(12):
                    answer = desk.say(f"shown a {lane} {t}")
                    self.assertEqual(desk.say(f"shown g {lane} {t}"), answer)
                    self.assertEqual(desk.say(f"shown s {lane} {t}"), answer)
                    self.assertEqual(desk.say(f"seek a 1 {lane} {t}").split(" / ")[0], answer)


if __name__ == "__main__":
    unittest.main()
