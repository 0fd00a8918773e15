"""Worlds, legs and ways: [4]."""

import random
import unittest

from minusone.data import follows, is_way, is_world, legs
from minusone.errors import NoEar, NoLeg, NoSeat, NoVoice
from worlds import (EMPTY, FULL, HALF, HALL, KINDS, LOOP, ONE, ROOM, TWO, ladder, listed, pairs, plain_follows,
                    plain_is_way, plain_legs, plain_starts, random_world)

SEEDS = range(150)
GOOD = [EMPTY, FULL, HALL, KINDS, LOOP, ONE, ROOM, TWO]


def nested(value, levels, as_list=False):
    for _ in range(levels):
        value = [value] if as_list else (value,)
    return value


STRANGE = [
    None, True, False, 0, 1, -1, 10 ** 30, "", "p", "ab", "P", "a b", "j.there", (), [], (None,), [None], ("p",), ["p"],
    ((), ()), ((), (), ()), [(), (), (), ()], ((), (), (), [])
] + [nested(thing, 12, as_list) for thing in ("a", 1, None, True) for as_list in (False, True)]


def parts(value, path=()):
    """All values in a value, with the paths to them."""
    found = [(path, value)]
    if isinstance(value, tuple):
        for at, part in enumerate(value):
            found.extend(parts(part, path + (at,)))
    return found


def put(value, path, new):
    if not path:
        return new
    at = path[0]
    return value[:at] + (put(value[at], path[1:], new),) + value[at + 1:]


class IsWorld(unittest.TestCase):
    def yes(self, *world):
        self.assertIs(is_world(world), True, world)

    def no(self, *world):
        self.assertIs(is_world(world), False, world)

    def test_worlds(self):
        for world in GOOD + [random_world(seed) for seed in SEEDS]:
            self.yes(*world)

    def test_strange_things(self):
        for thing in STRANGE:
            self.assertIs(is_world(thing), False, thing)

    def test_a_list_is_no_tuple(self):
        for world in GOOD:
            for path, part in parts(world):
                if isinstance(part, tuple):
                    self.assertIs(is_world(put(world, path, list(part))), False, (path, world))

    def test_a_tuple_too_long_or_too_short(self):
        for path, part in parts(FULL):
            if len(path) != 1 and isinstance(part, tuple) and path[:1] != (3,):
                self.assertIs(is_world(put(FULL, path, part + (None,))), False, path)
                self.assertIs(is_world(put(FULL, path, part[1:])), False, path)

    def may_stand(self, path, part, thing):
        """Whether the thing is of the kind that the document has at this place."""
        if len(path) == 1:
            return thing == () or (path == (0,) and thing == ("p",))
        if len(path) == 3 and path[0] == 1 and path[2] > 2:
            return thing is None
        return isinstance(thing, part.__class__) and not isinstance(part, tuple) and (
            isinstance(thing, bool) == isinstance(part, bool))

    def test_strange_parts(self):
        for world in (FULL, LOOP, ROOM):
            for path, part in parts(world):
                for thing in STRANGE:
                    if not self.may_stand(path, part, thing):
                        self.assertIs(is_world(put(world, path, thing)), False, (path, thing))

    def test_numbers_are_no_truths_and_truths_no_numbers(self):
        for truth in (1, 0, None, "", "True", ()):
            self.no(("p",), (), (("a", "p", truth, True),), ())
            self.no(("p",), (), (("a", "p", True, truth),), ())
        for number in (True, False, 0, -1, None, "1", (1,)):
            for gain in ((number, 1), (1, number)):
                self.no(("p", "q"), (("j", "p", "q", gain, None),), (), ())
                self.no(("p", "q"), (("j", "p", "q", None, gain),), (), ())
                self.no(ROOM[0], (), ROOM[2], (("r", ("a", "b"), gain),))

    def test_gains(self):
        for gain in ((1, 1), (2, 2), (6, 4), (10, 1), (1, 10 ** 20)):
            self.yes(("p", "q"), (("j", "p", "q", gain, gain),), (), ())
            self.yes(ROOM[0], (), ROOM[2], (("r", ("a", "b"), gain),))
        for gain in ((), (1,), (1, 2, 3), 1, "12", [1, 2]):
            self.no(("p", "q"), (("j", "p", "q", gain, None),), (), ())
            self.no(ROOM[0], (), ROOM[2], (("r", ("a", "b"), gain),))
        self.no(ROOM[0], (), ROOM[2], (("r", ("a", "b"), None),))

    def test_names(self):
        for name in ("a", "z", "abcdefgh", "there", "back"):
            self.yes((name,), (), ((name, name, True, True),), ())
        for name in ("", "abcdefghi", "A", "a1", "a ", "a-b", "\u00e4", "`", "{", None, True, 1, ("a",)):
            self.no((name,), (), (), ())
            self.no(("p",), (), ((name, "p", True, True),), ())
            self.no(("p", "q"), ((name, "p", "q", None, None),), (), ())
            self.no(ROOM[0], (), ROOM[2], ((name, ("a", "b"), HALF),))

    def test_ascending_and_not_twice(self):
        seat_a, seat_b, join_j, join_k = TWO[2] + TWO[1]
        self.yes(("p", "q"), (join_j, join_k), (seat_a, seat_b), ())
        self.no(("q", "p"), (), (), ())
        self.no(("p", "p"), (), (), ())
        self.no(("p", "q"), (join_k, join_j), (), ())
        self.no(("p", "q"), (join_j, join_j), (), ())
        self.no(("p", "q"), (("j", "p", "q", None, None), ("j", "q", "p", HALF, HALF)), (), ())
        self.no(("p", "q"), (), (seat_b, seat_a), ())
        self.no(("p", "q"), (), (seat_a, seat_a), ())
        self.no(("p", "q"), (), (seat_a, ("a", "q", False, False)), ())

    def test_a_name_of_a_join_and_of_a_seat(self):
        self.no(("p", "q"), (("a", "p", "q", HALF, HALF),), ONE[2], ())
        self.no(("p", "q"), (("b", "p", "q", None, None),), ONE[2], ())
        self.yes(("a", "j"), (("j", "a", "j", HALF, None),), (("a", "j", True, False),), ())
        self.yes(("p",), (), ROOM[2], (("a", ("a", "b"), HALF),))

    def test_joins(self):
        self.yes(("p", "q"), (("j", "q", "p", None, None),), (), ())
        for one, other in (("p", "p"), ("p", "r"), ("r", "q"), ("p", None), (("p",), "q"), (["p"], "q")):
            self.no(("p", "q"), (("j", one, other, HALF, HALF),), (), ())

    def test_seats(self):
        for bridge in ("q", "", None, 0, ("p",), ["p"]):
            self.no(("p",), (), (("a", bridge, True, True),), ())
        self.no((), (), (("a", "p", True, True),), ())

    def test_rooms(self):
        bridges, _, seats, _ = FULL
        for members in (("a", "b"), ("a", "f"), ("a", "b", "c", "d", "e", "f")):
            self.yes(bridges, (), seats, (("m", members, HALF),))
        for members in ((), ("a",), ("b", "a"), ("a", "a"), ("a", "b", "b"), ("a", "x"), ("a", "p"), "ab",
                        ["a", "b"], ("a", None), ("a", 1), ("a", ["b"]), None):
            self.no(bridges, (), seats, (("m", members, HALF),))
        self.yes(bridges, (), seats, (("m", ("a", "c"), HALF), ("n", ("b", "d"), HALF)))
        self.no(bridges, (), seats, (("m", ("a", "c"), HALF), ("n", ("b", "c"), HALF)))
        self.no(bridges, (), seats, (("n", ("a", "c"), HALF), ("m", ("b", "d"), HALF)))
        self.no(bridges, (), seats, (("m", ("a", "c"), HALF), ("m", ("b", "d"), HALF)))

    def test_beyond_the_bounds(self):
        self.yes(*ladder(20))
        bridges = tuple(sorted("b" + letter + more for letter in "abcdefghij" for more in "abcdefghij"))
        seats = tuple(("s" + name, name, True, True) for name in bridges)
        self.yes(bridges, (), seats, (("r", tuple(seat[0] for seat in seats), (1000, 1)),))


class Legs(unittest.TestCase):
    def test_ways_that_are_shut(self):
        for there in (None, HALF):
            for back in (None, HALF):
                world = (("p", "q"), (("j", "p", "q", there, back),), (), ())
                expected = [("j", "back")] * (back is not None) + [("j", "there")] * (there is not None)
                self.assertEqual(legs(world), expected)

    def test_seats_that_only_speak_or_only_hear(self):
        self.assertEqual(legs(KINDS), [("e", "s"), ("e", "t"), ("t", "s")])

    def test_seats_of_two_rooms(self):
        expected = [("a", "b"), ("a", "c"), ("d", "e"), ("d", "f")]
        self.assertEqual([leg for leg in legs(FULL) if leg[0] in "abcdef"], expected)
        self.assertEqual(len(legs(FULL)), 16)

    def test_empty_world(self):
        self.assertEqual(legs(EMPTY), [])

    def test_a_seat_called_there(self):
        seats = (("back", "p", True, True), ("there", "p", True, True))
        self.assertEqual(legs((("p",), (), seats, (("r", ("back", "there"), HALF),))),
                         [("back", "there"), ("there", "back")])

    def test_against_the_plain_reading(self):
        for seed in SEEDS:
            world = random_world(seed)
            self.assertEqual(legs(world), sorted(plain_legs(world)), world)


class Follows(unittest.TestCase):
    def test_not_back_by_the_same_line(self):
        self.assertIs(follows(TWO, ("k", "back"), ("j", "there")), True)
        self.assertIs(follows(TWO, ("j", "back"), ("j", "there")), False)
        self.assertIs(follows(TWO, ("j", "there"), ("j", "there")), False)
        self.assertIs(follows(TWO, ("k", "there"), ("j", "there")), False)

    def test_the_first_is_the_later_one(self):
        self.assertIs(follows(LOOP, ("j", "there"), ("b", "a")), True)
        self.assertIs(follows(LOOP, ("b", "a"), ("j", "there")), True)
        self.assertIs(follows(HALL, ("a", "b"), ("a", "b")), False)
        chain = (("p", "q", "r"), (("j", "p", "q", HALF, None), ("k", "q", "r", HALF, None)), (), ())
        self.assertIs(follows(chain, ("k", "there"), ("j", "there")), True)
        self.assertIs(follows(chain, ("j", "there"), ("k", "there")), False)

    def test_a_leg_that_follows_itself(self):
        self.assertIs(follows(ROOM, ("a", "b"), ("a", "b")), True)
        self.assertIs(follows(LOOP, ("a", "b"), ("a", "b")), False)
        self.assertIs(follows(LOOP, ("a", "b"), ("b", "a")), False)

    def test_against_the_plain_reading(self):
        for seed in SEEDS:
            world = random_world(seed)
            for leg in plain_legs(world):
                for ahead in plain_legs(world):
                    self.assertIs(follows(world, leg, ahead), plain_follows(world, leg, ahead), (world, leg, ahead))

    def none(self, world, leg, ahead, wrong):
        with self.assertRaises(NoLeg) as caught:
            follows(world, leg, ahead)
        self.assertEqual(caught.exception.leg, wrong)
        self.assertIsInstance(caught.exception.leg, tuple)

    def test_no_leg(self):
        there = ("j", "there")
        for wrong in (("j", "forth"), ("x", "there"), ("a", "b"), ("there", "j"), ("p", "q"), ("j",), (),
                      ("j", "there", "there"), ("j", ("there",)), ("j", None), (True, 1)):
            for given in (wrong, listed(wrong)):
                self.none(ONE, given, there, wrong)
                self.none(ONE, there, given, wrong)
                self.none(EMPTY, given, given, wrong)

    def test_the_first_that_is_none(self):
        self.none(ONE, ("x", "there"), ("y", "there"), ("x", "there"))
        self.none(ONE, ["x", "there"], ["j", "there"], ("x", "there"))

    def test_shut_ways_and_deaf_or_dumb_seats_are_no_legs(self):
        self.none(LOOP, ("j", "back"), ("j", "there"), ("j", "back"))
        for wrong in (("s", "t"), ("t", "e"), ("t", "m"), ("m", "t"), ("t", "t")):
            self.none(KINDS, ("t", "s"), wrong, wrong)
        for wrong in (("a", "d"), ("a", "e"), ("d", "a")):
            self.none(FULL, wrong, ("a", "b"), wrong)


class IsWay(unittest.TestCase):
    def yes(self, world, speaker, listener, start, *row):
        self.assertIs(is_way(world, speaker, listener, (start, row)), True, (start, row))

    def no(self, world, speaker, listener, start, *row):
        self.assertIs(is_way(world, speaker, listener, (start, row)), False, (start, row))

    def test_no_legs(self):
        self.yes(ROOM, "c", "a", "c")
        self.no(ROOM, "c", "c", "c")
        self.no(ROOM, "c", "a", "a")
        self.no(ONE, "a", "b", "a")
        self.no(ONE, "a", "a", "a")

    def test_a_start_in_the_room(self):
        self.yes(ROOM, "a", "a", "b")
        self.yes(ROOM, "b", "c", "a")
        self.no(ROOM, "b", "a", "a")
        self.yes(HALL, "a", "c", "b")
        self.no(HALL, "d", "c", "b")
        self.yes(KINDS, "s", "e", "t")
        self.no(KINDS, "t", "t", "e")
        self.no(KINDS, "t", "t", "m")

    def test_not_out_by_the_line_of_the_start(self):
        self.yes(ROOM, "c", "a", "c", ("a", "b"))
        self.no(ROOM, "a", "c", "a", ("a", "b"))
        self.yes(ROOM, "a", "c", "b", ("a", "b"))
        self.no(HALL, "a", "c", "a", ("a", "b"))

    def test_not_in_by_the_line_of_the_listener(self):
        self.no(LOOP, "d", "b", "d", ("a", "b"))
        self.yes(LOOP, "d", "b", "d", ("j", "there"))
        self.no(LOOP, "d", "a", "d", ("j", "there"), ("b", "a"))
        self.yes(LOOP, "d", "d", "d", ("j", "there"), ("b", "a"))

    def test_a_leg_several_times(self):
        for many in range(1, 9):
            self.yes(ROOM, "c", "c", "c", *[("a", "b")] * many)
        self.yes(TWO, "a", "b", "a", *[("j", "there"), ("k", "back")] * 4 + [("j", "there")])

    def test_each_follows_the_one_ahead(self):
        self.yes(TWO, "a", "b", "a", ("j", "there"))
        self.no(TWO, "a", "b", "a", ("j", "back"))
        self.no(TWO, "a", "b", "a", ("j", "there"), ("j", "back"), ("j", "there"))
        self.no(TWO, "a", "b", "a", ("j", "there"), ("k", "there"))
        self.no(TWO, "a", "b", "a", ("j", "there"), ("k", "back"))
        self.no(TWO, "a", "b", "a", ("k", "back"), ("j", "there"))

    def test_other_values(self):
        there = ("j", "there")
        wrong = STRANGE + [
            ("a",), ("a", there), ("a", (there,), ()), ["a", (there,)], ("a", [there]), ("a", (["j", "there"],)),
            (("a",), (there,)), (["a"], (there,)), (None, (there,)), (True, (there,)), ("x", (there,)),
            ("a", None), ("a", True), ("a", "j"), ("a", ""), ("a", 0), ("a", {}), ("a", (None,)), ("a", (True,)),
            ("a", ("j",)), ("a", (("j",),)), ("a", (("j", True),)), ("a", (("j", "there", "there"),)),
            ("a", (("j", ["there"]),)), ("a", ((),)), ("a", ([],)), ("a", (there, None)), ("a", (None, there)),
            ("a", (("x", "there"),)), ("a", ((there,),)), (there, "a"), ("b", (there,)),
        ]
        for thing in wrong:
            self.assertIs(is_way(ONE, "a", "b", thing), False, thing)
        self.yes(ONE, "a", "b", "a", there)

    def test_against_the_plain_reading(self):
        found = {True: 0, False: 0}
        for seed in SEEDS:
            world, dice = random_world(seed), random.Random(seed)
            table = sorted(plain_legs(world))
            for speaker, listener in pairs(world):
                for start in plain_starts(world, speaker) + [listener]:
                    for size in range(4 if table else 1):
                        row = self.walk(world, dice, start, table, size)
                        told = is_way(world, speaker, listener, (start, row))
                        self.assertIs(told, plain_is_way(world, speaker, listener, start, row),
                                      (world, speaker, listener, start, row))
                        found[told] += 1
        self.assertGreater(min(found.values()), 1000)

    def walk(self, world, dice, start, table, size):
        """Legs that mostly follow one another."""
        row = []
        for _ in range(size):
            choice = [leg for leg in table if row and plain_follows(world, leg, row[-1])]
            row.append(dice.choice(choice if choice and dice.random() < 0.9 else table))
        return tuple(row)

    def wrong(self, world, speaker, listener, error, name):
        for thing in (None, (speaker, ()), STRANGE):
            with self.assertRaises(error) as caught:
                is_way(world, speaker, listener, thing)
            self.assertEqual(caught.exception.name, name)

    def test_errors(self):
        self.wrong(KINDS, "x", "y", NoSeat, "x")
        self.wrong(KINDS, "s", "y", NoSeat, "y")
        self.wrong(KINDS, "e", "y", NoSeat, "y")
        self.wrong(KINDS, "e", "s", NoVoice, "e")
        self.wrong(KINDS, "m", "m", NoVoice, "m")
        self.wrong(KINDS, "s", "s", NoEar, "s")
        self.wrong(KINDS, "t", "m", NoEar, "m")


if __name__ == "__main__":
    unittest.main()
