"""How often, by which way, and whom: [1] (a) and [5]."""

import unittest
from unittest import mock

from minusone.data import is_way
from minusone.errors import NoEar, NoSeat, NoVoice
from minusone.net import Net
from minusone.ways import echo, hearers, is_echo, reached, times, way
from test_data import STRANGE
from worlds import (EMPTY, FULL, HALF, HALL, KINDS, LOOP, ONE, ROOM, TWO, ladder, listed, mixed, pairs, plain_is_way,
                    plain_reached, plain_times, plain_way, random_world)

SEEDS = range(300)

# A voice from a to d may go round before it comes to r, and only there: t is beyond what goes round.
TAIL = (("p", "q", "r", "s", "t"),
        (("ja", "p", "q", HALF, None), ("jb", "q", "r", HALF, HALF), ("jc", "q", "r", HALF, HALF),
         ("jd", "r", "s", HALF, None), ("je", "p", "t", HALF, None)),
        (("a", "p", True, False), ("d", "s", False, True), ("e", "t", False, True), ("f", "t", True, False)), ())


class Times(unittest.TestCase):
    def test_never(self):
        self.assertEqual(times(ONE, "a", "a"), 0)
        self.assertEqual(times(HALL, "b", "a"), 0)
        self.assertEqual(times(TAIL, "f", "d"), 0)
        self.assertIs(times((("p",), (), ROOM[2][:1], ()), "a", "a").__class__, int)

    def test_so_many_times(self):
        self.assertEqual(times(ONE, "a", "b"), 1)
        self.assertEqual(times(HALL, "d", "c"), 1)
        self.assertEqual(times(HALL, "d", "a"), 1)
        self.assertEqual(times(HALL, "a", "c"), 1)
        for rungs in range(1, 6):
            self.assertEqual(times(ladder(rungs), "a", "z"), 2 ** rungs)

    def test_each_start_counts(self):
        seats = tuple((name, "p", name != "d", name == "d") for name in "abcd")
        self.assertEqual(times((("p",), (), seats, ()), "a", "d"), 1)
        self.assertEqual(times((("p",), (), seats, (("r", ("a", "b"), HALF),)), "a", "d"), 2)
        self.assertEqual(times((("p",), (), seats, (("r", ("a", "b", "c"), HALF),)), "a", "d"), 3)
        self.assertEqual(times((("p",), (), seats, (("r", ("b", "c"), HALF),)), "a", "d"), 1)

    def test_without_end(self):
        self.assertIsNone(times(TWO, "a", "b"))
        self.assertIsNone(times(TWO, "a", "a"))
        self.assertIsNone(times(ROOM, "c", "a"))
        self.assertIsNone(times(ROOM, "c", "c"))
        self.assertIsNone(times(TAIL, "a", "d"))

    def test_what_goes_round_elsewhere_does_not_count(self):
        self.assertEqual(times(TAIL, "a", "e"), 1)
        self.assertEqual(times(TAIL, "f", "e"), 1)

    def test_what_goes_round_and_is_not_reached_does_not_count(self):
        joins = (("ja", "p", "q", HALF, HALF), ("jb", "p", "q", HALF, HALF), ("jc", "q", "r", HALF, None))
        seats = (("a", "q", True, False), ("b", "r", True, True), ("c", "r", False, True))
        self.assertEqual(times((("p", "q", "r"), joins, seats, ()), "b", "c"), 1)
        self.assertIsNone(times((("p", "q", "r"), joins, seats, ()), "a", "c"))
        self.assertEqual(times((("p", "q", "r"), joins, seats, ()), "b", "b"), 0)

    def test_beyond_the_bounds(self):
        self.assertEqual(times(ladder(20), "a", "z"), 2 ** 20)

    def test_against_the_plain_reading(self):
        found = {}
        for seed in SEEDS:
            world = random_world(seed)
            for speaker, listener in pairs(world):
                number = times(world, speaker, listener)
                self.assertEqual(number, plain_times(world, speaker, listener), (world, speaker, listener))
                found[number] = found.get(number, 0) + 1
        self.assertGreater(min(found[number] for number in (None, 0, 1, 2, 3)), 10)


class Way(unittest.TestCase):
    def test_none(self):
        self.assertIsNone(way(ONE, "a", "a"))
        self.assertIsNone(way(HALL, "b", "a"))

    def test_fewest_legs(self):
        self.assertEqual(way(ONE, "a", "b"), ("a", (("j", "there"),)))
        self.assertEqual(way(ROOM, "c", "a"), ("c", ()))
        self.assertEqual(way(TAIL, "a", "d"), ("a", (("ja", "there"), ("jb", "there"), ("jd", "there"))))

    def test_the_later_start_with_fewer_legs(self):
        self.assertEqual(way(LOOP, "a", "b"), ("a", (("j", "there"),)))
        self.assertEqual(way(LOOP, "b", "d"), ("a", ()))
        self.assertEqual(way(HALL, "a", "c"), ("b", ()))

    def test_the_least_of_several(self):
        self.assertEqual(way(TWO, "b", "b"), ("b", (("j", "back"), ("k", "there"))))
        self.assertEqual(way(KINDS, "t", "e"), ("s", ()))
        start, row = way(ladder(5), "a", "z")
        self.assertEqual((start, row[0], row[1]), ("a", ("jbx", "there"), ("jcx", "there")))

    def test_against_the_plain_reading(self):
        sizes = {}
        for seed in SEEDS:
            world = random_world(seed)
            for speaker, listener in pairs(world):
                told = way(world, speaker, listener)
                self.assertEqual(told, plain_way(world, speaker, listener), (world, speaker, listener))
                if told is not None:
                    self.assertIs(is_way(world, speaker, listener, told), True)
                    sizes[len(told[1])] = sizes.get(len(told[1]), 0) + 1
        self.assertGreater(min(sizes[size] for size in (0, 1, 2, 3)), 10)


class Reached(unittest.TestCase):
    def test_reached(self):
        self.assertEqual(reached(ONE, "a"), (("j", "there"),))
        self.assertEqual(reached(ONE, "b"), (("j", "back"),))
        self.assertEqual(reached(ROOM, "c"), (("a", "b"),))
        self.assertEqual(reached(TAIL, "f"), ())

    def test_by_each_start(self):
        self.assertEqual(reached(ROOM, "a"), (("a", "b"),))
        self.assertEqual(reached((ROOM[0], (), ROOM[2][:2], ROOM[3]), "b"), (("a", "b"),))
        self.assertEqual(reached(LOOP, "b"), (("b", "a"), ("j", "there")))
        self.assertEqual(reached(LOOP, "d"), (("a", "b"), ("b", "a"), ("j", "there")))
        self.assertEqual(reached(HALL, "a"), ())
        self.assertEqual(reached(HALL, "d"), (("a", "b"),))

    def test_hearers(self):
        self.assertEqual(hearers(ROOM, "a"), ["a", "c"])
        self.assertEqual(hearers(ROOM, "b"), ["a", "c"])
        self.assertEqual(hearers(HALL, "d"), ["a", "c"])
        self.assertEqual(hearers(KINDS, "s"), ["e", "t"])
        self.assertEqual(hearers(TAIL, "a"), ["d", "e"])
        self.assertEqual(hearers((("p",), (), (("a", "p", True, True),), ()), "a"), [])

    def test_against_the_plain_reading(self):
        for seed in SEEDS:
            world = random_world(seed)
            for name, _, speaks, _ in world[2]:
                if speaks:
                    self.assertEqual(reached(world, name), plain_reached(world, name), (world, name))
                    heard = [other for one, other in pairs(world) if one == name and plain_way(world, one, other)]
                    self.assertEqual(hearers(world, name), heard, (world, name))


class Echo(unittest.TestCase):
    def test_where_the_ways_are_endless(self):
        found = 0
        for world in [FULL, LOOP, ROOM, TAIL, TWO] + [random_world(seed) for seed in SEEDS]:
            for speaker, listener in pairs(world):
                told = echo(world, speaker, listener)
                if plain_times(world, speaker, listener) is None:
                    self.assertIs(is_echo(world, speaker, listener, told), True, (world, speaker, listener, told))
                    self.goes_round(world, speaker, listener, told)
                    found += 1
                else:
                    self.assertIsNone(told, (world, speaker, listener))
        self.assertGreater(found, 100)

    def goes_round(self, world, speaker, listener, told):
        """The round makes another way of it however often it is gone."""
        start, ahead, circle, behind = told
        self.assertNotEqual(circle, ())
        for many in range(1, 4):
            self.assertIs(is_way(world, speaker, listener, (start, ahead + circle * many + behind)), True)

    def test_is_echo(self):
        there, back = ("j", "there"), ("k", "back")
        for told in (("a", (there,), (back, there), ()), ("a", (), (there, back), (there,)),
                     ("a", (there, back), (there, back), (there,)), ("a", (there,), (back, there) * 2, ())):
            self.assertIs(is_echo(TWO, "a", "b", told), True, told)
        for row in (((), (("a", "b"),), ()), ((("a", "b"),), (("a", "b"),) * 3, (("a", "b"),))):
            self.assertIs(is_echo(ROOM, "c", "a", ("c",) + row), True, row)
            self.assertIs(is_echo(ROOM, "a", "a", ("a",) + row), False, row)
            self.assertIs(is_echo(ROOM, "a", "a", ("b",) + row), True, row)

    def test_no_echo(self):
        there, back = ("j", "there"), ("k", "back")
        for told in (
            ("a", (there,), (), ()), ("a", (), (there,), ()), ("a", (there,), (back,), (there,)),
            ("a", (there, back), (there,), ()), ("a", (there,), (back, ("j", "there")), (back,)),
            ("a", (), (there, back), ()), ("b", (there,), (back, there), ()), ("a", (), (back, there), ()),
            ("a", (there,), (("j", "back"), there), ()), ("x", (there,), (back, there), ()),
        ):
            self.assertIs(is_echo(TWO, "a", "b", told), False, told)
        self.assertIs(is_echo(ONE, "a", "b", ("a", (), (there,), ())), False)

    def test_the_round_must_be_closed_though_the_row_is_a_way(self):
        there, back, over = ("j", "there"), ("k", "back"), ("k", "there")
        self.assertIs(is_way(TWO, "a", "b", ("a", (there, back, there))), True)
        self.assertIs(is_echo(TWO, "a", "b", ("a", (), (there, back, there), ())), False)
        self.assertIs(is_way(TWO, "a", "b", ("a", (over,))), True)
        self.assertIs(is_echo(TWO, "a", "b", ("a", (), (over,), ())), False)

    def test_other_values(self):
        there, back = ("j", "there"), ("k", "back")
        wrong = STRANGE + [
            ["a", (there,), (back, there), ()], ("a", [there], (back, there), ()), ("a", (there,), [back, there], ()),
            ("a", (there,), (back, there), []), ("a", (there,), (["k", "back"], there), ()),
            (["a"], (there,), (back, there), ()), (None, (there,), (back, there), ()), ("a", (there,), (back, there)),
            ("a", (there,), (back, there), (), ()), ("a", (there,), (back, there), None),
            ("a", None, (back, there), ()), ("a", (there,), None, ()), ("a", (there,), True, ()),
            ("a", (there,), "", ()), ("a", "", (there, back), (there,)),
            ("a", 0, 0, 0), ("a", (None,), (back, there), ()), ("a", (there,), (True,), ()), ("a", there, back, there),
            ("a", (there,), (back, ("j", True)), ()), ("a", ((there,),), ((back, there),), ()),
        ]
        for thing in wrong:
            self.assertIs(is_echo(TWO, "a", "b", thing), False, thing)


class Errors(unittest.TestCase):
    def wrong(self, error, name, call, *given):
        with self.assertRaises(error) as caught:
            call(*given)
        self.assertEqual(caught.exception.name, name)

    def test_speaker_and_listener(self):
        cases = [("x", "y", NoSeat, "x"), ("x", "x", NoSeat, "x"), ("s", "y", NoSeat, "y"), ("e", "y", NoSeat, "y"),
                 ("p", "t", NoSeat, "p"), ("t", "r", NoSeat, "r"), ("e", "s", NoVoice, "e"), ("m", "m", NoVoice, "m"),
                 ("e", "e", NoVoice, "e"), ("s", "s", NoEar, "s"), ("t", "m", NoEar, "m"), ("", "e", NoSeat, "")]
        for speaker, listener, error, name in cases:
            for call in (times, way, echo):
                self.wrong(error, name, call, KINDS, speaker, listener)
            for thing in (None, (speaker, (), (), ()), STRANGE):
                self.wrong(error, name, is_echo, KINDS, speaker, listener, thing)

    def test_a_join_is_no_seat(self):
        for call in (times, way, echo):
            self.wrong(NoSeat, "j", call, ONE, "j", "a")
            self.wrong(NoSeat, "j", call, ONE, "a", "j")

    def test_what_is_no_name_is_no_seat(self):
        for thing in (None, True, 0, ("a",), ["a"], ""):
            for call in (times, way, echo):
                self.wrong(NoSeat, thing, call, ONE, thing, "a")
                self.wrong(NoSeat, thing, call, ONE, "a", thing)

    def test_speaker_alone(self):
        for call in (reached, hearers):
            self.wrong(NoSeat, "x", call, KINDS, "x")
            self.wrong(NoSeat, "r", call, KINDS, "r")
            self.wrong(NoSeat, "a", call, EMPTY, "a")
            self.wrong(NoVoice, "e", call, KINDS, "e")
            self.wrong(NoVoice, "m", call, KINDS, "m")

    def test_empty_world(self):
        for call in (times, way, echo):
            self.wrong(NoSeat, "a", call, EMPTY, "a", "b")


NOBODY = ("", "h", "j", "p", "zz", None, 7, ("a",))
THINGS = (None, 5, "a", (), ("a",), ("a", ()), ["a", ()], ("a", (), (("a", "b"),), ()), ("a", (("j", "there"),)))


def first_reason(world, speaker, listener):
    """What the document says is raised for these two, by its words; None if nothing is."""
    names = [seat[0] for seat in world[2]]
    for name in (speaker, listener):
        if name not in names:
            return (NoSeat, name)
    if not world[2][names.index(speaker)][2]:
        return (NoVoice, speaker)
    if not world[2][names.index(listener)][3]:
        return (NoEar, listener)
    return None


class Refused(unittest.TestCase):
    """Every pair of seats and names of nobody, in worlds with rooms and without."""

    def worlds(self):
        return [EMPTY, FULL, HALL, KINDS, LOOP, ONE, ROOM, TWO] + [random_world(seed) for seed in range(60)]

    def all_pairs(self, world):
        names = [seat[0] for seat in world[2]] + list(NOBODY)
        return [(speaker, listener) for speaker in names for listener in names]

    def refuses(self, reason, call, *given):
        with self.assertRaises(reason[0]) as caught:
            call(*given)
        self.assertIs(caught.exception.__class__, reason[0])
        self.assertEqual(vars(caught.exception), {"name": reason[1]})

    def test_the_first_reason(self):
        found = {None: 0, NoSeat: 0, NoVoice: 0, NoEar: 0}
        for world in self.worlds():
            for speaker, listener in self.all_pairs(world):
                reason = first_reason(world, speaker, listener)
                found[reason and reason[0]] += 1
                if reason is None:
                    self.answers(world, speaker, listener)
                    continue
                for given in (world, listed(world), mixed(world)):
                    for call in (times, way, echo):
                        self.refuses(reason, call, given, speaker, listener)
                    for thing in THINGS:
                        self.refuses(reason, is_way, given, speaker, listener, thing)
                        self.refuses(reason, is_echo, given, speaker, listener, thing)
        self.assertGreater(min(found.values()), 100)

    def answers(self, world, speaker, listener):
        number, told = times(world, speaker, listener), way(world, speaker, listener)
        self.assertEqual(number, plain_times(world, speaker, listener))
        self.assertEqual(told, plain_way(world, speaker, listener))
        self.assertIs(listener in hearers(world, speaker), told is not None)
        self.assertIs(is_echo(world, speaker, listener, echo(world, speaker, listener)), number is None)
        self.assertIs(is_way(world, speaker, listener, told), told is not None)
        for thing in THINGS:
            right = isinstance(thing, tuple) and len(thing) == 2 and plain_is_way(world, speaker, listener, *thing)
            self.assertIs(is_way(world, speaker, listener, thing), right, (world, thing))

    def test_a_speaker_alone(self):
        for world in self.worlds():
            for name in [seat[0] for seat in world[2]] + list(NOBODY):
                for call in (reached, hearers):
                    for given in (world, listed(world)):
                        if name in [seat[0] for seat in world[2] if seat[2]]:
                            self.assertEqual(reached(given, name), plain_reached(world, name))
                        else:
                            reason = NoVoice if name in [seat[0] for seat in world[2]] else NoSeat
                            self.refuses((reason, name), call, given, name)

    def test_refused_without_laying_out_the_legs(self):
        """Most of a call's time goes there; a refused call need not take it."""
        with mock.patch.object(Net, "__init__", side_effect=AssertionError("laid out")):
            for speaker, listener in self.all_pairs(FULL):
                reason = first_reason(FULL, speaker, listener)
                if reason is not None:
                    for call in (times, way, echo):
                        self.refuses(reason, call, FULL, speaker, listener)
                    for call in (is_way, is_echo):
                        self.refuses(reason, call, FULL, speaker, listener, ("a", ()))
            for call in (reached, hearers):
                self.refuses((NoSeat, "x"), call, FULL, "x")
                self.refuses((NoVoice, "e"), call, KINDS, "e")
            for thing in (None, 5, "a", (), ("a",), ["a", ()], ("a", (), ()), ((), (), (), (), ())):
                self.assertIs(is_way(FULL, "a", "a", thing), False)
                self.assertIs(is_echo(FULL, "a", "a", thing), False)

    def test_laid_out_once_for_an_answer(self):
        with mock.patch("minusone.ways.Net", side_effect=Net) as laid:
            is_echo(TWO, "a", "b", ("a", (("j", "there"),), (("k", "back"), ("j", "there")), ()))
            self.assertEqual(laid.call_count, 1)


if __name__ == "__main__":
    unittest.main()
