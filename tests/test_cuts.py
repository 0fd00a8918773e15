"""What to shut, ways apart, and who overhears: [1] (c) and [8]."""

import unittest

from minusone.cuts import apart, fewest_shut, guard, is_apart, overheard
from minusone.data import is_way, legs
from minusone.errors import NoEar, NoSeat, NoVoice
from minusone.ways import way
from test_data import STRANGE
from worlds import (EMPTY, FULL, HALF, HALL, KINDS, LOOP, ONE, ROOM, THREE, TWO, ears, listed, pairs,
                    plain_fewest_shut, plain_guard, plain_is_way, plain_near, plain_overheard, random_world,
                    shared_line)

SEEDS = range(150)

J_BACK, J_THERE, K_BACK, K_THERE = legs(TWO)
BY_J, BY_K = ("a", (J_THERE,)), ("a", (K_THERE,))


def small_worlds():
    """Worlds of at most 12 legs."""
    worlds = [EMPTY, HALL, KINDS, LOOP, ONE, ROOM, THREE, TWO] + [random_world(seed) for seed in SEEDS]
    return [world for world in worlds if len(legs(world)) <= 12]


def downhill(*ends):
    """One way joins ja, jb, .. between bridges; a speaks at the first bridge, z hears at the last one."""
    bridges = tuple(sorted({bridge for pair in ends for bridge in pair}))
    joins = tuple(("j" + letter, one, other, HALF, None) for letter, (one, other) in zip("abcdefghi", ends))
    return (bridges, joins, (("a", bridges[0], True, False), ("z", bridges[-1], False, True)), ())


def there(*letters):
    return tuple(("j" + letter, "there") for letter in letters)


class FewestShut(unittest.TestCase):
    def test_a_way_without_legs(self):
        self.assertIsNone(fewest_shut(ROOM, "c", "a"))
        self.assertIsNone(apart(ROOM, "c", "a"))
        self.assertIsNone(fewest_shut(HALL, "a", "c"))
        self.assertIsNone(apart(HALL, "a", "c"))
        for thing in ((), (("c", ()),), (("c", (("a", "b"),)),), None):
            self.assertIs(is_apart(ROOM, "c", "a", thing), False, thing)

    def test_no_way(self):
        apart_bridges = (ONE[0], (), ONE[2], ())
        for world, speaker, listener in ((ONE, "a", "a"), (HALL, "b", "a"), (apart_bridges, "a", "b")):
            self.assertEqual(fewest_shut(world, speaker, listener), ())
            self.assertEqual(apart(world, speaker, listener), ())
            self.assertIs(is_apart(world, speaker, listener, ()), True)
            self.assertIs(is_apart(world, speaker, listener, None), False)
            self.assertIs(is_apart(world, speaker, listener, []), False)

    def test_one_leg(self):
        self.assertEqual(fewest_shut(ONE, "a", "b"), (J_THERE,))
        self.assertEqual(fewest_shut(downhill("pq", "pq", "qr"), "a", "z"), there("c"))
        self.assertEqual(fewest_shut(downhill("pq", "qr", "qr"), "a", "z"), there("a"))

    def test_of_several_the_least(self):
        self.assertEqual(fewest_shut(downhill("pq", "qr", "rs"), "a", "z"), there("a"))
        self.assertEqual(fewest_shut(downhill("rs", "qr", "pq"), "a", "z"), there("a"))
        self.assertEqual(fewest_shut(downhill("pq", "rs", "qs", "pr"), "a", "z"), there("a", "b"))
        self.assertEqual(fewest_shut(downhill("qs", "pr", "pq", "rs"), "a", "z"), there("a", "b"))
        self.assertEqual(fewest_shut(TWO, "a", "a"), (J_BACK, J_THERE))
        self.assertEqual(fewest_shut(TWO, "b", "b"), (J_BACK, J_THERE))

    def test_fewer_come_before_less_ones(self):
        self.assertEqual(fewest_shut(downhill("pq", "pq", "qr", "rs", "rs"), "a", "z"), there("c"))
        self.assertEqual(fewest_shut(downhill("pq", "pr", "ps", "qt", "rt", "st", "tu", "tu"), "a", "z"), there("g", "h"))

    def test_several_joins_of_the_same_bridges(self):
        for many in range(1, 7):
            world = shared_line(HALF, many)
            ways = tuple((name, "there") for name in "jklmno"[:many])
            self.assertEqual(fewest_shut(world, "a", "b"), ways)
            self.assertEqual(len(apart(world, "a", "b")), many)

    def test_several_starts_of_one_voice(self):
        seats = (("a", "p", True, False), ("b", "q", True, False), ("z", "r", False, True))
        joins = (("j", "p", "r", HALF, None), ("k", "q", "r", HALF, None))
        world = (("p", "q", "r"), joins, seats, (("x", ("a", "b"), HALF),))
        self.assertEqual(fewest_shut(world, "a", "z"), (J_THERE, K_THERE))
        self.assertEqual(sorted(apart(world, "a", "z")), [("a", (J_THERE,)), ("b", (K_THERE,))])
        self.assertEqual(fewest_shut(world[:3] + ((),), "a", "z"), (J_THERE,))
        self.assertIs(is_apart(world, "a", "z", (("b", (K_THERE,)), ("a", (J_THERE,)))), True)
        self.assertIs(is_apart(world, "a", "z", (("a", (J_THERE,)),)), False)

    def test_starts_stay_where_their_legs_are_shut(self):
        self.assertIsNone(fewest_shut(KINDS, "s", "t"))
        self.assertEqual(fewest_shut(LOOP, "b", "b"), (("j", "there"),))

    def test_a_way_round_that_must_give_way_to_another(self):
        """The shortest way takes legs that both of two other ways need."""
        world = downhill("pq", "qt", "tu", "pr", "rt", "qs", "su")
        self.assertEqual(len(apart(world, "a", "z")), 2)
        self.assertEqual(fewest_shut(world, "a", "z"), there("a", "c"))
        crossed = downhill("pr", "ps", "rs", "rt", "st", "tu", "su")
        self.assertEqual(len(apart(crossed, "a", "z")), 2)
        self.assertIs(is_apart(crossed, "a", "z", apart(crossed, "a", "z")), True)

    def test_against_the_plain_reading(self):
        found = {}
        for world in small_worlds():
            for speaker, listener in pairs(world):
                told = fewest_shut(world, speaker, listener)
                self.assertEqual(told, plain_fewest_shut(world, speaker, listener), (world, speaker, listener))
                many = None if told is None else len(told)
                found[many] = found.get(many, 0) + 1
        self.assertGreater(min(found[many] for many in (None, 0, 1, 2, 3, 4)), 10)


class Apart(unittest.TestCase):
    def test_as_many_as_are_shut(self):
        for world in small_worlds() + [FULL]:
            for speaker, listener in pairs(world):
                told = apart(world, speaker, listener)
                if plain_near(world, speaker, listener):
                    self.assertIsNone(told)
                    continue
                self.assertEqual(len(told), len(fewest_shut(world, speaker, listener)))
                for start, row in told:
                    self.assertTrue(plain_is_way(world, speaker, listener, start, row))
                used = [leg for _, row in told for leg in row]
                self.assertEqual(len(set(used)), len(used), (world, told))
                self.assertIs(is_apart(world, speaker, listener, told), True)
                self.assertIs(is_apart(world, speaker, listener, told[::-1]), True)
                for at in range(len(told)):
                    self.assertIs(is_apart(world, speaker, listener, told[:at] + told[at + 1:]), False)
                    self.assertIs(is_apart(world, speaker, listener, told + told[at:at + 1]), False)
                    self.assertIs(is_apart(world, speaker, listener, told[:at] + told[:1] + told[at + 1:]), at == 0)

    def test_in_any_order(self):
        self.assertIs(is_apart(TWO, "a", "b", (BY_J, BY_K)), True)
        self.assertIs(is_apart(TWO, "a", "b", (BY_K, BY_J)), True)

    def test_one_too_few_and_twice_the_same(self):
        for thing in ((), (BY_J,), (BY_K,), (BY_J, BY_J), (BY_K, BY_K), (BY_J, BY_K, BY_J), (BY_J, BY_J, BY_K)):
            self.assertIs(is_apart(TWO, "a", "b", thing), False, thing)

    def test_a_leg_in_common(self):
        long = ("a", (J_THERE, K_BACK, J_THERE))
        self.assertIs(is_way(TWO, "a", "b", long), True)
        self.assertIs(is_apart(TWO, "a", "b", (BY_J, long)), False)
        self.assertIs(is_apart(TWO, "a", "b", (long, BY_J)), False)
        both = ("a", (K_THERE, J_BACK, K_THERE, J_BACK, K_THERE))
        self.assertIs(is_apart(TWO, "a", "b", (BY_J, both)), True)
        self.assertIs(is_apart(TWO, "a", "b", (("a", (J_THERE, K_BACK, J_THERE)), both)), True)
        self.assertIs(is_apart(TWO, "a", "b", (("a", (J_THERE, K_BACK, J_THERE)), BY_K)), True)
        self.assertIs(is_apart(TWO, "a", "b", (("a", (J_THERE, K_BACK, J_THERE, K_BACK, J_THERE)), BY_J)), False)

    def test_a_leg_several_times_in_one_way(self):
        seats = (("a", "p", True, True), ("b", "p", True, True), ("y", "p", True, False), ("z", "q", False, True))
        world = (("p", "q"), (("j", "p", "q", HALF, None),), seats, (("r", ("a", "b"), HALF),))
        round_way = ("y", (("a", "b"), ("a", "b"), ("a", "b"), J_THERE))
        self.assertEqual(fewest_shut(world, "y", "z"), (J_THERE,))
        self.assertIs(is_apart(world, "y", "z", (round_way,)), True)
        self.assertIs(is_apart(world, "y", "z", (round_way, ("y", (J_THERE,)))), False)

    def test_no_ways(self):
        for wrong in (("b", (J_THERE,)), ("a", (J_BACK,)), ("a", ()), ("a", (J_THERE, K_BACK)), ("x", (J_THERE,)),
                      ("a", (("x", "there"),)), ("a", J_THERE), ("a", (K_THERE, K_BACK, K_THERE))):
            self.assertIs(is_apart(TWO, "a", "b", (BY_J, wrong)), False, wrong)
            self.assertIs(is_apart(TWO, "a", "b", (wrong, BY_J)), False, wrong)
            self.assertIs(is_apart(TWO, "a", "b", (BY_J, BY_K, wrong)), False, wrong)

    def test_other_values(self):
        wrong = STRANGE + [
            [BY_J, BY_K], (list(BY_J), BY_K), (BY_J, ("a", [K_THERE])), (BY_J, ("a", (list(K_THERE),))), BY_J,
            listed((BY_J, BY_K)), (BY_J, BY_K, ()), (BY_J, BY_K, None), ((BY_J, BY_K),), (BY_J, (("a",), (K_THERE,))),
            (BY_J, ("a", (K_THERE,), ())), (BY_J, ("a",)), (BY_J, (None, (K_THERE,))), (BY_J, (True, (K_THERE,))),
        ]
        for thing in wrong:
            self.assertIs(is_apart(TWO, "a", "b", thing), False, thing)
        for thing in STRANGE:
            self.assertIs(is_apart(TWO, "a", "b", (BY_J, thing)), False, thing)
            self.assertIs(is_apart(TWO, "a", "b", (BY_J, (thing, (K_THERE,)))), False, thing)
            self.assertIs(is_apart(TWO, "a", "b", (BY_J, ("a", thing))), False, thing)
            self.assertIs(is_apart(TWO, "a", "b", (BY_J, ("a", (thing,)))), False, thing)

    def test_one_way_is_as_good_as_the_told_one(self):
        told = way(downhill("pq", "qr", "pr"), "a", "z")
        self.assertIs(is_apart(downhill("pq", "qr", "pr"), "a", "z", (told, ("a", there("a", "b")))), True)


class Overheard(unittest.TestCase):
    def test_overheard(self):
        self.assertEqual(overheard(ROOM, "a"), ["c"])
        self.assertEqual(guard(ROOM, "a"), (("a", "b"),))
        self.assertEqual(overheard(KINDS, "e"), ["t"])
        self.assertEqual(overheard(KINDS, "t"), ["e"])
        # What comes over (e, t) comes by the line of t, and t does not hear it.
        self.assertEqual(guard(KINDS, "e"), (("e", "s"),))
        self.assertEqual(guard(KINDS, "t"), (("t", "s"),))

    def test_nobody_overhears(self):
        for world, seat in ((ONE, "a"), (ROOM, "c"), (THREE, "a"), (TWO, "b")):
            self.assertEqual(overheard(world, seat), [])
            self.assertEqual(guard(world, seat), ())

    def test_a_seat_that_overhears_itself_alone(self):
        world = (("p",), (), ROOM[2][:2], ROOM[3])
        self.assertEqual(overheard(world, "a"), [])
        self.assertEqual(guard(world, "a"), ())
        self.assertEqual(plain_overheard(world, "a"), [])

    def test_not_by_the_line_of_the_listener(self):
        seats = (("a", "p", False, True), ("b", "q", True, True))
        world = (("p", "q"), (), seats, (("r", ("a", "b"), HALF),))
        self.assertEqual(overheard(world, "a"), [])
        more = (world[0], (), seats + (("c", "q", False, True), ("d", "q", True, False)), world[3])
        self.assertEqual(overheard(more, "a"), ["c"])

    def test_only_what_comes_out_of_its_loudspeaker(self):
        """What d says at the bridge of a is no matter; what a says neither."""
        self.assertEqual(overheard(HALL, "a"), ["c"])
        self.assertEqual(overheard(HALL, "c"), [])
        self.assertEqual(overheard(LOOP, "d"), [])

    def test_legs_on_from_there(self):
        seats = (("a", "p", False, True), ("b", "p", True, False), ("c", "s", False, True), ("d", "t", False, True))
        joins = (("ja", "p", "q", HALF, None), ("jb", "p", "r", HALF, None), ("jc", "q", "s", HALF, None),
                 ("jd", "r", "s", HALF, None), ("je", "t", "p", HALF, None))
        world = (("p", "q", "r", "s", "t"), joins, seats, (("x", ("a", "b"), HALF),))
        self.assertEqual(overheard(world, "a"), ["c"])
        self.assertEqual(guard(world, "a"), (("a", "b"),))
        two_mouths = seats[:2] + (("bb", "p", True, False),) + seats[2:]
        world = (world[0], joins, two_mouths, (("x", ("a", "b", "bb"), HALF),))
        self.assertEqual(guard(world, "a"), (("a", "b"), ("a", "bb")))
        world = (world[0], joins[:2] + (("jc", "q", "s", HALF, None),), two_mouths, world[3])
        self.assertEqual(guard(world, "a"), (("ja", "there"),))

    def test_guard_of_several_the_least(self):
        seats = (("a", "p", False, True), ("b", "q", True, False), ("c", "r", False, True))
        for name in ("j", "x"):
            world = (("p", "q", "r"), ((name, "q", "r", HALF, None),), seats, (("r", ("a", "b"), HALF),))
            self.assertEqual(overheard(world, "a"), ["c"])
            self.assertEqual(guard(world, "a"), (("a", "b"),))
        seats = (("k", "p", False, True), ("l", "q", True, False), ("m", "r", False, True))
        world = (("p", "q", "r"), (("j", "q", "r", HALF, None),), seats, (("r", ("k", "l"), HALF),))
        self.assertEqual(guard(world, "k"), (("j", "there"),))

    def test_against_the_plain_reading(self):
        found = {}
        for world in small_worlds():
            for seat in ears(world):
                self.assertEqual(overheard(world, seat), plain_overheard(world, seat), (world, seat))
                told = guard(world, seat)
                self.assertEqual(told, plain_guard(world, seat), (world, seat))
                found[len(told)] = found.get(len(told), 0) + 1
        self.assertGreater(min(found[many] for many in (0, 1, 2)), 10)


class Errors(unittest.TestCase):
    def wrong(self, error, name, call, *given):
        with self.assertRaises(error) as caught:
            call(*given)
        self.assertEqual(caught.exception.name, name)

    def test_speaker_and_listener(self):
        cases = [("x", "y", NoSeat, "x"), ("s", "y", NoSeat, "y"), ("e", "y", NoSeat, "y"), ("p", "t", NoSeat, "p"),
                 ("e", "s", NoVoice, "e"), ("m", "m", NoVoice, "m"), ("e", "e", NoVoice, "e"), ("s", "s", NoEar, "s"),
                 ("t", "m", NoEar, "m"), ("", "e", NoSeat, "")]
        for speaker, listener, error, name in cases:
            for call in (fewest_shut, apart):
                self.wrong(error, name, call, KINDS, speaker, listener)
            for thing in (None, (), STRANGE):
                self.wrong(error, name, is_apart, KINDS, speaker, listener, thing)

    def test_seat(self):
        for call in (overheard, guard):
            self.wrong(NoSeat, "x", call, KINDS, "x")
            self.wrong(NoSeat, "r", call, KINDS, "r")
            self.wrong(NoSeat, "j", call, TWO, "j")
            self.wrong(NoSeat, "a", call, EMPTY, "a")
            self.wrong(NoEar, "s", call, KINDS, "s")
            self.wrong(NoEar, "m", call, KINDS, "m")
            self.wrong(NoEar, "b", call, ROOM, "b")

    def test_a_seat_that_does_not_speak_may_overhear(self):
        self.assertEqual(overheard(KINDS, "e"), ["t"])

    def test_empty_world(self):
        for call in (fewest_shut, apart):
            self.wrong(NoSeat, "a", call, EMPTY, "a", "b")
        self.wrong(NoSeat, "a", is_apart, EMPTY, "a", "b", ())


if __name__ == "__main__":
    unittest.main()
