"""Worlds, legs, ways and gains as texts: [10]."""

import random
import re
import unittest

from minusone.data import is_world, legs
from minusone.errors import BadLine, BadText
from minusone.texts import gain_text, leg_in, leg_text, way_text, world_in, world_text
from minusone.ways import way
from worlds import (EMPTY, FULL, HALF, HALL, KINDS, LOOP, ONE, ROOM, THREE, TWO, listed, mixed, pairs, random_world)

WORLDS = [EMPTY, FULL, HALL, KINDS, LOOP, ONE, ROOM, THREE, TWO] + [random_world(seed) for seed in range(150)]

NAME, GAIN = "[a-z]{1,8}", "[1-9][0-9]{0,2}/[1-9][0-9]{0,2}"
FORMS = (f"({NAME}) ({NAME}) > ({NAME}) ({GAIN}|-) ({GAIN}|-)", f"({NAME}) @ ({NAME}) (SH|S|H|-)",
         f"({NAME}) = ({NAME}(?:[+]{NAME})*) ({GAIN})")

ODD = ["", " ", "  ", "-", "--", "\t", "\r", "\x0b", "\x0c", "\x1c", "\x85", "\u2028", "\u00e9", "\u00b2", "\u0661", "\uff11",
       "\u00aa", "p\r", "P", "p ", " p", "p  q", "p\tq", "p,q", "p-", "- p", "p -", "- -", "1", "0/1", "\x00", "\ud800",
       "abcdefghi", "p q\u00a0", "\u00a0", "SH", "()", "None"]


def plain_gain(text):
    return None if text == "-" else tuple(int(part) for part in text.split("/"))


def plain_row(kind, parts):
    if kind == 0:
        return (*parts[:3], plain_gain(parts[3]), plain_gain(parts[4]))
    if kind == 1:
        return (*parts[:2], "S" in parts[2], "H" in parts[2])
    return (parts[0], tuple(parts[1].split("+")), plain_gain(parts[2]))


def plain_world_in(text):
    """Line by line: what is read up to there must be a world, too. The number of the first wrong line, or the world."""
    lines = text.split("\n")
    if lines[0] != "-" and not re.fullmatch(f"{NAME}( {NAME})*", lines[0]):
        return 0
    parts = [() if lines[0] == "-" else tuple(lines[0].split(" ")), (), (), ()]
    if not is_world(tuple(parts)):
        return 0
    last = 0
    for number, line in enumerate(lines[1:], 1):
        kinds = [kind for kind, form in enumerate(FORMS) if re.fullmatch(form, line)]
        if not kinds or kinds[0] < last:
            return number
        last = kinds[0]
        parts[last + 1] += (plain_row(last, re.fullmatch(FORMS[last], line).groups()),)
        if not is_world(tuple(parts)):
            return number
    return tuple(parts)


def told_world_in(text):
    try:
        return world_in(text)
    except BadLine as error:
        return error.number


def spoilt(text, dice):
    """The text with something in it changed."""
    signs = list("  --/.>@=+SHabz019\n\t\r") + ["\u00b2", "\u00e9", "\u0661", "00", "1000", "longnames"]
    lines, at = text.split("\n"), dice.randrange(len(text) + 1)
    kind = dice.randrange(8)
    if kind == 0:
        return text[:at] + dice.choice(signs) + text[at:]
    if kind == 1:
        return text[:at] + text[at + 1:]
    if kind == 2:
        return text[:at] + dice.choice(signs) + text[at + 1:]
    one, other = dice.randrange(len(lines)), dice.randrange(len(lines))
    if kind == 3:
        lines[one], lines[other] = lines[other], lines[one]
    elif kind == 4:
        lines.insert(one, lines[other])
    elif kind == 5:
        del lines[one]
    else:
        words, more = lines[one].split(" "), lines[other].split(" ")
        words[dice.randrange(len(words))] = dice.choice(more)
        lines[one] = " ".join(words)
    return "\n".join(lines)


class WorldText(unittest.TestCase):
    def test_each_kind_of_line(self):
        self.assertEqual(world_text(LOOP), "p q\nj p > q 1/2 -\na @ p SH\nb @ q SH\nd @ p SH\nr = a+b 1/2")
        self.assertEqual(world_text(KINDS), "p\ne @ p H\nm @ p -\ns @ p S\nt @ p SH\nr = e+m+s+t 3/2")
        self.assertEqual(world_text((("p", "q"), (("j", "q", "p", None, (12, 345)), ("k", "p", "q", None, None)), (), ())),
                         "p q\nj q > p - 12/345\nk p > q - -")

    def test_gains_as_they_stand(self):
        for gain in ((2, 1), (1, 1), (2, 4), (9, 9), (999, 999), (1, 999)):
            text = f"p q\nj p > q {gain[0]}/{gain[1]} -"
            self.assertEqual(world_text((("p", "q"), (("j", "p", "q", gain, None),), (), ())), text)
            self.assertEqual(world_in(text)[1][0][3], gain)

    def test_no_bridges(self):
        self.assertEqual(world_text(EMPTY), "-")
        self.assertEqual(world_text([[], [], [], []]), "-")
        self.assertEqual(world_in("-"), EMPTY)

    def test_back_again(self):
        for world in WORLDS:
            text = world_text(world)
            self.assertEqual(world_text(listed(world)), text)
            self.assertEqual(world_text(mixed(world)), text)
            told = world_in(text)
            self.assertEqual(told, world)
            self.assertIs(is_world(told), True)
            self.assertEqual(plain_world_in(text), world)

    def test_names_of_several_things(self):
        """A bridge, a seat and a room may be called alike, as may a bridge, a join and a room."""
        world = (("a", "b", "j"), (("j", "a", "b", HALF, HALF),),
                 (("a", "a", True, True), ("b", "a", True, True)), (("a", ("a", "b"), HALF),))
        text = "a b j\nj a > b 1/2 1/2\na @ a SH\nb @ a SH\na = a+b 1/2"
        self.assertEqual(world_text(world), text)
        self.assertEqual(world_in(text), world)
        self.assertEqual(world_in("a\na @ a S\nb @ a H\nb = a+b 1/1")[3], (("b", ("a", "b"), (1, 1)),))

    def test_beyond_the_bounds(self):
        names = [first + second for first in "abcdefgh" for second in "abcdefgh"]
        world = (tuple(names), (), tuple((name, "aa", True, False) for name in names), ())
        self.assertEqual(world_in(world_text(world)), world)
        # More than three digits are written, but not read.
        large = (("p", "q"), (("j", "p", "q", (1000, 1), None),), (), ())
        self.assertEqual(world_text(large), "p q\nj p > q 1000/1 -")
        with self.assertRaises(BadLine):
            world_in(world_text(large))


class WorldIn(unittest.TestCase):
    def wrong(self, number, *lines):
        text = "\n".join(lines)
        with self.assertRaises(BadLine) as caught:
            world_in(text)
        self.assertEqual(caught.exception.number, number, text)
        self.assertEqual(plain_world_in(text), number, text)

    def right(self, *lines):
        text = "\n".join(lines)
        self.assertEqual(world_text(world_in(text)), text)

    def test_bridges(self):
        self.wrong(0, "")
        for line in ("q p", "p p", "p q p", "p  q", " p", "p ", "P", "p1", "p,q", "- p", "p -", "--", "abcdefghi", "p\tq",
                     "p\r", "\u00e9", "p\u2028q"):
            self.wrong(0, line)
            self.wrong(0, line, "nothing", "of this")
        self.right("abcdefgh p")

    def test_joins(self):
        for line in ("j p > q 1/2", "j p > q 1/2 1/2 1/2", "j p q 1/2 1/2", "j p < q 1/2 1/2", "j p > p 1/2 1/2",
                     "j p > x 1/2 1/2", "j x > q 1/2 1/2", "j p > q 1 1/2", "j p > q 1/2 2", "j p > q 0/1 1/2",
                     "j p > q 1/0 1/2", "j p > q 01/2 1/2", "j p > q 1/02 1/2", "j p > q 1000/1 1/2", "j p > q 1/1000 -",
                     "j p > q -1/2 1/2", "j p > q +1/2 1/2", "j p > q 1/2/3 1/2", "j p > q / 1/2", "j p > q 1/ 1/2",
                     "j p > q /2 1/2", "j p > q None 1/2", "j p > q -- 1/2", "j p > q 1_0/2 1/2", "j p > q 1 /2 1/2",
                     "j p > q 1x/2 1/2", "j p > q 1/2a 1/2",
                     "J p > q 1/2 1/2", "j p  > q 1/2 1/2", " j p > q 1/2 1/2", "j p > q 1/2 1/2 ", "j p > q 1/2  -",
                     "j p\t> q 1/2 1/2", "j p > q 1/2 1/2\r", "j p > q \u0661/2 1/2", "j p > q 1/\u00b2 -", "j p > q \uff11/2 -",
                     "joinjoinj p > q 1/2 1/2", "- p > q 1/2 1/2", "j - > q 1/2 1/2", "j p > q 1/2 1\\2", ""):
            self.wrong(1, "p q", line)
            self.wrong(1, "p q", line, "a @ p SH")
            self.wrong(2, "p q", "a p > q - -", line, "", "")
        self.right("p q", "j p > q 1/2 1/2", "k q > p 999/1 -", "ka p > q - -")

    def test_seats(self):
        for line in ("a @ p", "a @ p SH S", "a @ x S", "a @ p HS", "a @ p s", "a @ p sh", "a @ p SS", "a @ p --", "a p S",
                     "a = p S", "A @ p S", "a @ P S", "a  @ p S", "a @ p S ", " a @ p S", "a @ p\tS", "a @ p S\t", "@ @ p S",
                     "a @ - S", "- @ p S", "a @ p S\r", "abcdefghi @ p S", "a @ p SHH", "a @ p ", "a @p SH", "a@p SH", ""):
            self.wrong(1, "p q", line)
            self.wrong(2, "p q", "j p > q - -", line)
        self.right("p", "a @ p -", "b @ p H", "c @ p S", "d @ p SH")
        self.wrong(1, "-", "a @ p S")
        self.wrong(1, "-", "a @ - S")

    def test_rooms(self):
        head = ("p", "a @ p SH", "b @ p S", "c @ p -", "d @ p H")
        for line in ("r = a+b", "r = a+b 1", "r = a+b -", "r = a 1/2", "r = a+ 1/2", "r = +a 1/2", "r = a++b 1/2",
                     "r = b+a 1/2", "r = a+a 1/2", "r = a+b+b 1/2", "r = a+x 1/2", "r = a+p 1/2", "r = a + b 1/2",
                     "r = a,b 1/2", "r @ a+b 1/2", "r a+b 1/2", "R = a+b 1/2", "r = a+b 0/2", "r = a+b 1/0",
                     "r = a+b 1/02", "r = a+b 1/1000", "r = a+b 1/2 ", "r  = a+b 1/2", "r = - 1/2", "- = a+b 1/2",
                     "r = a+b 1/2\r", "roomrooms = a+b 1/2", "r = + 1/2", ""):
            self.wrong(5, *head, line)
        self.right(*head, "r = a+b+c 2/4")
        self.right(*head, "a = a+c 1/2", "r = b+d 1/2")

    def test_a_seat_in_two_rooms(self):
        head = ("p", "a @ p SH", "b @ p S", "c @ p -", "d @ p H")
        self.wrong(6, *head, "r = a+b 1/2", "s = b+c 1/2")
        self.wrong(7, *head, "r = a+b 1/2", "s = c+d 1/2", "t = a+c 1/2")
        self.wrong(6, *head, "r = a+b 1/2", "s = a+b 1/2", "t = c+d 1/2")

    def test_not_ascending_or_twice(self):
        self.wrong(2, "p q", "k p > q - -", "j p > q - -")
        self.wrong(2, "p q", "j p > q - -", "j q > p - -")
        self.wrong(3, "p q", "j p > q - -", "l p > q - -", "k p > q - -")
        self.wrong(2, "p q", "b @ p S", "a @ p S")
        self.wrong(2, "p q", "a @ p S", "a @ q H")
        self.wrong(3, "p q", "a @ p S", "c @ p S", "b @ p S")
        head = ("p", "a @ p SH", "b @ p S", "c @ p -", "d @ p H")
        self.wrong(6, *head, "s = a+b 1/2", "r = c+d 1/2")
        self.wrong(6, *head, "r = a+b 1/2", "r = c+d 1/2")

    def test_joins_then_seats_then_rooms(self):
        self.wrong(2, "p q", "a @ p S", "j p > q - -")
        self.wrong(4, "p q", "a @ p S", "b @ p S", "r = a+b 1/2", "c @ p S")
        self.wrong(4, "p q", "a @ p S", "b @ p S", "r = a+b 1/2", "j p > q - -")
        self.wrong(1, "p q", "r = a+b 1/2", "a @ p S", "b @ p S")
        self.wrong(2, "p q", "a @ p S", "r = a+b 1/2", "b @ p S")
        self.wrong(1, "p q", "p q")

    def test_a_seat_that_is_called_like_a_join(self):
        self.wrong(2, "p q", "j p > q - -", "j @ p S")
        self.wrong(3, "p q", "j p > q - -", "a @ p S", "j @ p S")
        self.right("p q", "p p > q - -", "q @ p S")

    def test_the_first_wrong_line(self):
        self.wrong(0, "p p", "j p > p", "")
        self.wrong(1, "p q", "j p > p - -", "j p > q - -", "", "x")
        self.wrong(2, "p q", "j p > q - -", "j p > q - -", "a @ x S")
        # Were the wrong join left out, the seat could stand there.
        self.wrong(2, "p q", "j p > q - -", "j q > p - -", "j @ p S")

    def test_line_feeds(self):
        self.wrong(1, "p", "")
        self.wrong(1, "p", "", "a @ p S")
        self.wrong(2, "p", "a @ p S", "")
        self.wrong(0, "", "p")
        self.wrong(0, "", "")
        self.wrong(1, "-", "")
        self.wrong(0, "p\r", "a @ p S")
        self.wrong(0, "p\u2028a @ p S")
        self.wrong(0, "p\x0b")

    def test_any_string(self):
        for text in ODD:
            for whole in (text, "p\n" + text, "p q\nj p > q 1/2 " + text, "p\na @ " + text + " S", "p\na " + text + " p S",
                          "p\na @ p " + text, text + "\np", "p\na @ p S\nb @ p S\nr = a+" + text + " 1/2"):
                self.assertEqual(told_world_in(whole), plain_world_in(whole), whole)

    def test_spoilt_texts(self):
        found = {}
        for seed in range(3000):
            dice = random.Random(seed)
            text = world_text(WORLDS[seed % len(WORLDS)])
            for _ in range(dice.randint(1, 2)):
                text = spoilt(text, dice)
            told = told_world_in(text)
            self.assertEqual(told, plain_world_in(text), text)
            kind = told if isinstance(told, int) else "world"
            found[kind] = found.get(kind, 0) + 1
        self.assertGreater(min(found[kind] for kind in ("world", 0, 1, 2, 3, 4, 5, 6, 7, 8)), 20, found)


class Legs(unittest.TestCase):
    def test_back_again(self):
        for world in WORLDS:
            for leg in legs(world):
                text = leg_text(leg)
                self.assertEqual(text, leg[0] + "." + leg[1])
                self.assertEqual(leg_text(list(leg)), text)
                for given in (world, listed(world), mixed(world)):
                    told = leg_in(given, text)
                    self.assertEqual(told, leg)
                    self.assertIs(told.__class__, tuple)

    def test_any_string(self):
        for world in (EMPTY, LOOP, ONE, ROOM):
            known = {leg_text(leg) for leg in legs(world)}
            texts = ODD + [".", "..", "j", "j.", ".there", "j.there.", ".j.there", "j..there", "j.there.back", "there.j",
                           "j .there", "j. there", " j.there", "j.there ", "j.there\n", "\nj.there", "J.there", "j,there",
                           "k.there", "j.Back", "a.a", "a.b", "b.a", "a.c", "c.a", "a.p", "('j', 'there')", "j>there",
                           "j.back", "j.there"]
            for text in texts:
                if text not in known:
                    with self.assertRaises(BadText) as caught:
                        leg_in(world, text)
                    self.assertEqual(vars(caught.exception), {})
                else:
                    self.assertEqual(leg_text(leg_in(world, text)), text)

    def test_a_way_that_is_shut(self):
        for text in ("j.back", "a.c", "b.c", "c.a", "d.a"):
            with self.assertRaises(BadText):
                leg_in(HALL, text)
        with self.assertRaises(BadText):
            leg_in(LOOP, "j.back")
        self.assertEqual(leg_in(LOOP, "j.there"), ("j", "there"))


class Ways(unittest.TestCase):
    def test_the_start_alone(self):
        self.assertEqual(way_text(("a", ())), "a")
        self.assertEqual(way_text(["a", []]), "a")

    def test_legs_behind_it(self):
        self.assertEqual(way_text(("a", (("j", "there"),))), "a>j.there")
        self.assertEqual(way_text(["c", [["a", "b"], ["a", "b"], ["j", "back"]]]), "c>a.b>a.b>j.back")

    def test_ways_that_are_told(self):
        for world in WORLDS:
            for speaker, listener in pairs(world):
                told = way(world, speaker, listener)
                if told is not None:
                    start, *rest = way_text(told).split(">")
                    self.assertEqual((start, tuple(leg_in(world, text) for text in rest)), told)
                    self.assertEqual(way_text(listed(told)), way_text(told))


class Gains(unittest.TestCase):
    def test_up_alone(self):
        for up in (0, 1, 2, 10, 999, 10 ** 40):
            self.assertEqual(gain_text((up, 1)), str(up))
            self.assertEqual(gain_text([up, 1]), str(up))

    def test_up_and_down(self):
        self.assertEqual(gain_text((1, 2)), "1/2")
        self.assertEqual(gain_text((2, 2)), "2/2")
        self.assertEqual(gain_text((4, 2)), "4/2")
        self.assertEqual(gain_text((1, 10)), "1/10")
        self.assertEqual(gain_text([12345, 678]), "12345/678")


if __name__ == "__main__":
    unittest.main()
