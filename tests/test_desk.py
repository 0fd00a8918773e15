"""A desk: [11]."""

import random
import unittest

from minusone import cuts, loud, rings, ways
from minusone.data import legs
from minusone.desk import answers
from minusone.errors import BadLine, NoEar, NoSeat, NoVoice
from minusone.texts import gain_text, leg_text, way_text, world_text
from worlds import (EMPTY, FULL, HALF, HALL, KINDS, LOOP, ONE, ROOM, THREE, TWO, less, pairs, plain_fewest_shut,
                    plain_hearers, plain_howl, plain_least_ring, plain_legs, plain_loud, plain_overheard, plain_times,
                    plain_way, random_world, softened)


def ask(world, *requests):
    return answers("\n".join([world_text(world), ""] + list(requests)))


def joined(texts):
    return " ".join(texts) or "-"


def texts_of(row):
    return joined([leg_text(leg) for leg in row])


def tell(told, world, word, names):
    """The answer of the document, by the functions that are told of as these words."""
    if word == "legs":
        return texts_of(told["legs"](world))
    if word == "ring":
        return texts_of(told["ring"](world) or ())
    if word == "calm":
        found = told["calm"](world)
        return "yes" if found is None else "no " + leg_text(found[1])
    found = told[word](world, *names)
    if word == "times":
        return "endless" if found is None else str(found)
    if word == "way":
        return "-" if found is None else way_text(found)
    if word == "loud":
        return "endless" if found is None else gain_text(found)
    if word == "cut":
        return "never" if found is None else texts_of(found)
    return joined(found)


FUNCTIONS = {"legs": legs, "ring": rings.least_ring, "calm": loud.howl, "times": ways.times, "way": ways.way,
             "loud": loud.loud, "hearers": ways.hearers, "cut": cuts.fewest_shut, "overheard": cuts.overheard}
PLAIN = {"legs": lambda world: sorted(plain_legs(world)), "ring": plain_least_ring, "calm": plain_howl,
         "times": plain_times, "way": plain_way, "loud": plain_loud, "hearers": plain_hearers,
         "cut": plain_fewest_shut, "overheard": plain_overheard}


def questions(world, names):
    """All requests that change nothing, with all of these names."""
    found = ["legs", "ring", "calm"]
    for one in names:
        found.extend([f"hearers {one}", f"overheard {one}"])
        found.extend(f"{word} {one} {other}" for other in names for word in ("times", "way", "loud", "cut"))
    return found


def refused(world, word, names):
    """Why the request is refused; None if it is not."""
    seats = {seat[0]: seat for seat in world[2]}
    for name in names:
        if name not in seats:
            return "refused NoSeat"
    if names and word != "overheard" and not seats[names[0]][2]:
        return "refused NoVoice"
    if names and word != "hearers" and not seats[names[-1]][3]:
        return "refused NoEar"
    return None


def expected(told, whole, left, line):
    word, *names = line.split(" ")
    return refused(whole, word, names) or tell(told, left, word, names)


def closed(world, shut):
    """The world with None for these ways of joins."""
    joins = tuple((name, one, other, None if (name, "there") in shut else there, None if (name, "back") in shut else back)
                  for name, one, other, there, back in world[1])
    return (world[0], joins, world[2], world[3])


class Answers(unittest.TestCase):
    def test_no_requests(self):
        for text in ("", "p\n", "-\n", "p q\nj p > q - -\n"):
            self.assertEqual(answers(text), [])

    def test_the_empty_world(self):
        for head in ("", "-\n"):
            self.assertEqual(answers(head + "\nlegs\nring\ncalm\ntimes a a\nhearers a\noverheard a\nshut a.b\nopen a.b"),
                             ["-", "-", "yes", "refused NoSeat", "refused NoSeat", "refused NoSeat", "refused NoLeg",
                              "refused NoLeg"])

    def test_legs(self):
        self.assertEqual(ask(TWO, "legs"), ["j.back j.there k.back k.there"])
        self.assertEqual(ask(TWO, "shut k.back", "legs", "shut j.back", "legs", "open k.back", "legs"),
                         ["done", "j.back j.there k.there", "done", "j.there k.there", "done",
                          "j.there k.back k.there"])
        self.assertEqual(ask(ROOM, "legs", "shut a.b", "legs"), ["a.b", "done", "-"])

    def test_shut_twice_and_open_what_is_open(self):
        self.assertEqual(ask(ONE, "open j.back", "legs", "shut j.back", "shut j.back", "legs", "open j.back", "legs",
                             "open j.back", "legs"),
                         ["done", "j.back j.there", "done", "done", "j.there", "done", "j.back j.there", "done",
                          "j.back j.there"])

    def test_a_leg_that_is_none(self):
        self.assertEqual(ask(LOOP, "shut j.back", "open j.back", "shut a.d", "open d.a", "shut x.there", "shut there.j",
                             "shut a.a", "legs", "open j.there", "shut j.there", "shut j.back", "shut j.there"),
                         ["refused NoLeg"] * 7 + ["a.b b.a j.there", "done", "done", "refused NoLeg", "done"])

    def test_times(self):
        self.assertEqual(ask(TWO, "times a b", "shut j.back", "times a b", "shut k.back", "times a b", "times b a",
                             "shut j.there", "shut k.there", "times a b"),
                         ["endless", "done", "endless", "done", "2", "0", "done", "done", "0"])

    def test_way(self):
        self.assertEqual(ask(TWO, "way a b", "shut j.there", "way a b", "shut k.there", "way a b", "way a a"),
                         ["a>j.there", "done", "a>k.there", "done", "-", "-"])
        self.assertEqual(ask(ROOM, "way a a", "way c a", "way c c", "shut a.b", "way c c", "way c a", "way a a"),
                         ["b", "c", "c>a.b", "done", "-", "c", "b"])

    def test_loud(self):
        self.assertEqual(ask(TWO, "loud a b", "loud a a", "shut k.back", "loud a b", "loud a a", "shut j.back", "loud a b",
                             "loud a a"),
                         ["4/3", "2/3", "done", "7/6", "1/3", "done", "1", "0"])
        self.assertEqual(ask(THREE, "loud a a", "shut j.there", "shut k.there", "loud a a"),
                         ["endless", "done", "done", "1"])
        self.assertEqual(ask(ROOM, "loud c a", "loud a a", "loud a c", "shut a.b", "loud c a", "loud a a", "loud a c"),
                         ["2", "1", "2", "done", "1", "1/2", "3/2"])

    def test_hearers(self):
        self.assertEqual(ask(ONE, "hearers a", "hearers b", "shut j.there", "hearers a", "hearers b"),
                         ["b", "a", "done", "-", "a"])
        self.assertEqual(ask(ROOM, "hearers a", "hearers b", "hearers c"), ["a c", "a c", "a c"])

    def test_ring_and_calm(self):
        self.assertEqual(ask(TWO, "ring", "calm", "shut j.back", "ring", "shut j.there", "ring", "calm"),
                         ["j.back k.there", "yes", "done", "j.there k.back", "done", "-", "yes"])
        self.assertEqual(ask(THREE, "calm", "shut j.back", "calm", "open j.back", "calm"),
                         ["no l.there", "done", "yes", "done", "no l.there"])

    def test_cut(self):
        self.assertEqual(ask(TWO, "cut a b", "shut k.there", "cut a b", "shut j.there", "cut a b"),
                         ["j.there k.there", "done", "j.there", "done", "-"])
        self.assertEqual(ask(ROOM, "cut c a", "cut a a", "cut c c", "shut a.b", "cut c a", "cut a a", "cut c c"),
                         ["never", "never", "a.b", "done", "never", "never", "-"])

    def test_overheard(self):
        self.assertEqual(ask(ROOM, "overheard a", "overheard c", "shut a.b", "overheard a"), ["c", "-", "done", "-"])
        self.assertEqual(ask((("p",), (), ROOM[2][:2], ROOM[3]), "overheard a"), ["-"])
        self.assertEqual(ask(HALL, "overheard a"), ["c"])

    def test_starts_and_ears_stay_where_the_air_is_shut(self):
        self.assertEqual(ask(KINDS, "shut e.s", "shut e.t", "shut t.s", "legs", "times s e", "times s t", "times t t",
                             "times t e", "loud t t", "way t t", "hearers s", "cut t t"),
                         ["done", "done", "done", "-", "2", "1", "1", "2", "3/2", "s", "e t", "never"])

    def test_all_stays_where_a_request_is_refused(self):
        self.assertEqual(ask(TWO, "shut j.back", "shut x.there", "open x.there", "times x a", "legs"),
                         ["done", "refused NoLeg", "refused NoLeg", "refused NoSeat", "j.there k.back k.there"])

    def test_refused(self):
        for word in ("times", "way", "loud", "cut"):
            self.assertEqual(ask(KINDS, f"{word} x y", f"{word} s x", f"{word} e x", f"{word} e m", f"{word} m m",
                                 f"{word} s s", f"{word} t m", f"{word} p r"),
                             ["refused " + name for name in ("NoSeat", "NoSeat", "NoSeat", "NoVoice", "NoVoice", "NoEar",
                                                             "NoEar", "NoSeat")])
        self.assertEqual(ask(KINDS, "hearers x", "hearers e", "hearers m", "overheard x", "overheard s", "overheard m",
                             "overheard r", "hearers p"),
                         ["refused " + name for name in ("NoSeat", "NoVoice", "NoVoice", "NoSeat", "NoEar", "NoEar",
                                                         "NoSeat", "NoSeat")])

    def test_names_of_the_errors(self):
        self.assertEqual([error.__name__ for error in (NoSeat, NoVoice, NoEar)], ["NoSeat", "NoVoice", "NoEar"])

    def test_words_of_requests_as_names(self):
        world = (("legs", "shut"), (("done", "legs", "shut", HALF, HALF), ("open", "legs", "shut", HALF, None)),
                 (("calm", "legs", True, True), ("ring", "shut", True, True), ("times", "legs", True, True)),
                 (("way", ("calm", "times"), HALF),))
        self.assertEqual(ask(world, "times times ring", "way ring times", "shut open.there", "shut calm.times",
                             "hearers times", "legs", "open open.there", "overheard calm", "cut ring calm", "loud calm ring"),
                         ["endless", "ring>done.back", "done", "done", "calm ring times",
                          "done.back done.there times.calm", "done",
                          joined(plain_overheard(less(world, [("calm", "times")]), "calm")),
                          texts_of(plain_fewest_shut(less(world, [("calm", "times")]), "ring", "calm")),
                          tell(PLAIN, less(world, [("calm", "times")]), "loud", ("calm", "ring"))])
        self.assertEqual(ask(world, "hearers hearers", "overheard legs", "way way way"), ["refused NoSeat"] * 3)

    def test_the_same_again(self):
        text = world_text(TWO) + "\n\nlegs\nshut j.back\nlegs"
        first = answers(text)
        self.assertEqual(first, ["j.back j.there k.back k.there", "done", "j.there k.back k.there"])
        first.append("spoilt")
        self.assertEqual(answers(text), first[:3])

    def test_large_texts(self):
        """More lines than the bound."""
        self.assertEqual(ask(FULL, *["shut ja.back", "legs", "open ja.back", "legs"] * 50),
                         ["done", texts_of(leg for leg in legs(FULL) if leg != ("ja", "back")), "done",
                          texts_of(legs(FULL))] * 50)


class AsTheFunctionsTell(unittest.TestCase):
    def test_nothing_shut(self):
        for world in (EMPTY, FULL, HALL, KINDS, LOOP, ONE, ROOM, THREE, TWO, softened(FULL, 3)):
            lines = questions(world, [seat[0] for seat in world[2]] + ["nobody"])
            self.assertEqual(ask(world, *lines), [expected(FUNCTIONS, world, world, line) for line in lines])

    def test_ways_of_joins_shut(self):
        """The same as of the world in which these are None."""
        for seed in range(40):
            dice, world = random.Random(seed), random_world(seed)
            own = [leg for leg in legs(world) if leg[0] in [join[0] for join in world[1]]]
            shut = dice.sample(own, dice.randint(0, len(own)))
            lines = questions(world, [seat[0] for seat in world[2]] + ["nobody"])
            told = ask(world, *["shut " + leg_text(leg) for leg in shut], *lines)
            left = closed(world, shut)
            self.assertEqual(told, ["done"] * len(shut) + [expected(FUNCTIONS, world, left, line) for line in lines])

    def test_against_the_plain_reading(self):
        """Legs are shut and opened, those through the air, too, and any request stands anywhere between."""
        found = {}
        for seed in range(60):
            dice = random.Random(seed)
            world = random_world(seed) if seed % 2 else softened(random_world(seed), seed)
            table = sorted(plain_legs(world))
            lines, wanted, shut = [], [], []
            for line in dice.choices(questions(world, [seat[0] for seat in world[2]] + ["nobody"]), k=25):
                if table:
                    word, leg = dice.choice(["shut", "open"]), dice.choice(table)
                    shut = [other for other in shut if other != leg] + [leg] * (word == "shut")
                    lines.append(f"{word} {leg_text(leg)}")
                    wanted.append("done")
                if line.startswith("cut") and len(table) - len(shut) > 8:
                    continue
                lines.append(line)
                wanted.append(expected(PLAIN, world, less(world, shut), line))
                kind = (line.split(" ")[0], wanted[-1] in ("-", "endless", "never", "yes", "0"))
                found[kind] = found.get(kind, 0) + 1
            self.assertEqual(ask(world, *lines), wanted, (world, lines))
        for word in ("times", "way", "loud", "hearers", "cut", "overheard"):
            self.assertGreater(min(found[word, True], found[word, False]), 5, (word, found))

    def test_all_legs_shut(self):
        for world in (FULL, HALL, KINDS, LOOP, ONE, ROOM, TWO):
            shut = legs(world)
            lines = questions(world, [seat[0] for seat in world[2]])
            told = ask(world, *["shut " + leg_text(leg) for leg in shut], *lines)[len(shut):]
            self.assertEqual(told, [expected(PLAIN, world, less(world, shut), line) for line in lines])
            self.assertEqual(told[:3], ["-", "-", "yes"])
            for speaker, listener in pairs(world):
                self.assertIn(told[lines.index(f"cut {speaker} {listener}")], ("-", "never"))


HEAD = "p q\nj p > q 1/2 1/2\na @ p SH\n"


class BadLines(unittest.TestCase):
    def wrong(self, number, text):
        with self.assertRaises(BadLine) as caught:
            answers(text)
        self.assertEqual(caught.exception.number, number, text)

    def test_the_empty_line_is_missing(self):
        self.wrong(1, "p")
        self.wrong(1, "-")
        self.wrong(3, HEAD[:-1])
        self.wrong(3, "p q\nj p > q 1/2 1/2\nlegs @ p SH")

    def test_a_wrong_line_where_the_empty_line_is_missing(self):
        self.wrong(3, HEAD + "legs")
        self.wrong(1, "legs\nlegs\n legs")
        self.wrong(0, "legs legs\nlegs\n legs")
        self.wrong(0, " ")
        self.wrong(1, "p\nlegs")
        self.wrong(2, "p q\nj p > q 1/2 1/2\nj p > q 1/2 1/2")

    def test_lines_of_the_world(self):
        self.wrong(0, "q p\n\nlegs")
        self.wrong(1, "p q\nj p > p 1/2 1/2\n\nlegs")
        self.wrong(2, "p q\nj p > q 1/2 1/2\nj @ p SH\n\nwhat")
        self.wrong(1, "p q\n \n\nlegs")
        self.wrong(3, HEAD + "a @ q SH\n\nlegs")

    def test_empty_lines_behind_the_first_one(self):
        self.wrong(1, "\n")
        self.wrong(1, "\n\n")
        self.wrong(2, "\nlegs\n")
        self.wrong(2, "p\n\n")
        self.wrong(3, "p\n\nlegs\n")
        self.wrong(4, HEAD + "\n\nlegs")
        self.wrong(5, HEAD + "\nlegs\n")
        self.wrong(5, HEAD + "\nlegs\n\nlegs")

    def test_what_is_no_request(self):
        for line in ("what", "Legs", "LEGS", "legs ", " legs", "legs a", "legs  ", "ring a", "calm a", "-", " ", "legs\t", "legs\r",
                     "times", "times a", "times a b c", "times  a b", "times a  b", "times a b ", " times a b", "times\ta b",
                     "times a\tb", "times a,b", "times A b", "times a 1", "times a abcdefghi", "times a.b", "times a b\r",
                     "way", "way a", "way a b c", "loud a", "loud a b c", "cut a", "cut a b c", "cut a.b", "hearers",
                     "hearers a b", "hearers a.b", "hearers -", "overheard", "overheard a b", "overheard A", "shut",
                     "shut j", "shut j there", "shut j.", "shut .there", "shut .", "shut j.there.back", "shut j..there",
                     "shut j.there k.there", "shut j .there", "shut  j.there", "shut j.there ", "shut J.there",
                     "shut j.1", "shut joinjoinj.there", "shut j.therewego", "shut j.there\r", "shut", "open", "open j",
                     "open j.there j.back", "open  j.there", "open\tj.there", "shut j,there", "shut -", "shut j.\u00e9",
                     "hearers \u00e9", "times a \u00b2", "guard a", "echo a b", "reached a", "howl", "weights", "done", "",
                     "legs\x0b", "legs\u2028ring", "shut j.there\x0c", "p q", "a @ p SH", "apart a b"):
            self.wrong(4, HEAD + "\n" + line)
            self.wrong(4, HEAD + "\n" + line + "\nlegs\n")
            self.wrong(5, HEAD + "\nlegs\n" + line + "\nwhat")
            self.wrong(1, "\n" + line)

    def test_the_form_alone_counts(self):
        self.assertEqual(answers(HEAD + "\ntimes x y\nshut x.y\nopen abcdefgh.abcdefgh\nhearers abcdefgh"),
                         ["refused NoSeat", "refused NoLeg", "refused NoLeg", "refused NoSeat"])

    def test_the_first_wrong_line(self):
        self.wrong(0, "p p\nj p > p\n\nwhat\nwhat")
        self.wrong(4, HEAD + "\nwhat\nlegs\nwhat\n")
        self.wrong(6, HEAD + "\nlegs\nring\nwhat\nlegs\n\n")

    def test_ahead_of_all_answers(self):
        self.wrong(5, HEAD + "\ntimes x y\nwhat")

    def test_any_text(self):
        """What is neither answered nor BadLine would end the test."""
        for seed in range(3000):
            dice = random.Random(seed)
            lines = [world_text(random_world(seed % 50)), ""] + dice.choices(
                ["legs", "ring", "calm", "times a b", "cut a aa", "shut a.b", "open b.a", "hearers c", "overheard d"], k=4)
            text = "\n".join(lines)
            for _ in range(dice.randint(0, 3)):
                at = dice.randrange(len(text) + 1)
                text = text[:at] + dice.choice(" \n-.>@=/+a1S\t\r\u00b2") + text[at + dice.randint(0, 1):]
            try:
                told = answers(text)
            except BadLine as error:
                self.assertLessEqual(error.number, text.count("\n") + 1)
                continue
            many = text.split("\n").index("")
            self.assertEqual(len(told), text.count("\n") - many)
            self.assertEqual([line for line in told if not line or line != line.strip() or "  " in line], [])


if __name__ == "__main__":
    unittest.main()
