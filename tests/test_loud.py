"""How loud, weights and howls: [1] (b) and [7]."""

import random
import unittest
from fractions import Fraction
from math import gcd

from minusone.data import legs
from minusone.errors import NoEar, NoSeat, NoVoice
from minusone.loud import howl, is_calm, is_howl, loud, weights
from test_data import STRANGE
from worlds import (EMPTY, FULL, HALF, HALL, KINDS, LOOP, ONE, ROOM, THREE, TWO, ladder, listed, pairs, plain_calm,
                    plain_gains, plain_legs, plain_loud, plain_sums, random_world, shared_line, softened)

SEEDS = range(100)

J_BACK, J_THERE, K_BACK, K_THERE = legs(TWO)
ONES = tuple((leg, (1, 1)) for leg in legs(TWO))


def worlds():
    found = [EMPTY, FULL, HALL, KINDS, LOOP, ONE, ROOM, THREE, TWO, softened(FULL, 1)]
    for seed in SEEDS:
        found.extend([random_world(seed), softened(random_world(seed), seed)])
    return found


def room_of(gain):
    """One leg that follows itself, with this gain."""
    return (ROOM[0], ROOM[1], ROOM[2], (("r", ("a", "b"), gain),))


def changed(rows, at, weight):
    return rows[:at] + ((rows[at][0], weight),) + rows[at + 1:]


class Weights(unittest.TestCase):
    def test_no_legs(self):
        for world in (EMPTY, (("p",), (), ONE[2][:0], ()), (("p", "q"), (("j", "p", "q", None, None),), (), ())):
            self.assertEqual(weights(world), ())
            self.assertIs(is_calm(world, ()), True)
            self.assertIsNone(howl(world))

    def test_what_no_leg_follows_weighs_1(self):
        self.assertEqual(weights(ONE), ((J_BACK, (1, 1)), (J_THERE, (1, 1))))
        self.assertEqual(weights(HALL), ((("a", "b"), (1, 1)),))

    def test_gains_above_1_without_a_round(self):
        chain = (("p", "q", "r"), (("j", "p", "q", (9, 1), None), ("k", "q", "r", (7, 2), None)), (), ())
        self.assertEqual(weights(chain), ((J_THERE, (9, 2)), (K_THERE, (1, 1))))
        self.assertIsNone(howl(chain))
        self.assertIs(is_calm(chain, ((J_THERE, (4, 1)), (K_THERE, (1, 1)))), True)
        self.assertIs(is_calm(chain, ((J_THERE, (7, 2)), (K_THERE, (1, 1)))), False)

    def test_calm_only_just(self):
        self.assertEqual(weights(room_of((998, 999))), ((("a", "b"), (999, 1)),))
        self.assertEqual(weights(shared_line((4, 9), 3)), tuple((leg, (9, 1)) for leg in legs(shared_line(HALF, 3))))
        self.assertIsNone(howl(shared_line((4, 9), 3)))

    def test_just_not_calm(self):
        for world in (room_of((1, 1)), room_of((7, 7)), shared_line((1, 1), 2), THREE, shared_line((2, 8), 5)):
            self.assertIsNone(weights(world), world)
            self.assertIsNotNone(howl(world), world)

    def test_a_round_of_a_great_and_a_small_gain(self):
        for back, calm in (((1, 9), False), ((1, 10), True)):
            world = (("p", "q"), (("j", "p", "q", (9, 1), None), ("k", "q", "p", back, None)), (), ())
            self.assertIs(weights(world) is not None, calm)
        self.assertEqual(weights(world), ((J_THERE, (11, 1)), (K_THERE, (100, 1))))

    def test_against_the_plain_reading(self):
        calm = 0
        for world in worlds():
            told = weights(world)
            table = legs(world)
            if plain_calm(world, table):
                sums = plain_sums(world, table, lambda leg: 1)
                self.assertEqual(told, tuple((leg, (sums[leg].numerator, sums[leg].denominator)) for leg in table))
                self.assertIs(is_calm(world, told), True, world)
                calm += bool(table)
            else:
                self.assertIsNone(told, world)
        self.assertGreater(calm, 60)


class IsCalm(unittest.TestCase):
    def test_small_and_great_ones(self):
        for worth in ((1, 1), (2, 1), (7, 3), (10 ** 30, 1), (1, 10 ** 30)):
            self.assertIs(is_calm(TWO, tuple((leg, worth) for leg in legs(TWO))), True, worth)
        self.assertIs(is_calm(TWO, changed(ONES, 0, (51, 100))), True)
        self.assertIs(is_calm(TWO, changed(ONES, 0, (199, 100))), True)

    def test_too_little_or_just_so(self):
        for at in range(4):
            for weight in ((1, 2), (1, 3), (2, 1), (3, 1)):
                self.assertIs(is_calm(TWO, changed(ONES, at, weight)), False, (at, weight))

    def test_not_in_least_terms(self):
        for weight in ((2, 2), (4, 4), (10, 10)):
            self.assertIs(is_calm(TWO, changed(ONES, 1, weight)), False, weight)
        self.assertIs(is_calm(TWO, changed(ONES, 1, (5, 4))), True)
        self.assertIs(is_calm(TWO, changed(ONES, 1, (10, 8))), False)

    def test_another_order_one_too_many_one_too_few(self):
        self.assertIs(is_calm(TWO, ONES), True)
        for rows in (ONES[::-1], ONES[1:] + ONES[:1], ONES[:3], ONES[1:], ONES + ONES[3:], ONES[:1] + ONES, (),
                     ONES + ((("l", "there"), (1, 1)),), ONES[:3] + ((("l", "there"), (1, 1)),), ONES[:2] + ONES[:2]):
            self.assertIs(is_calm(TWO, rows), False, rows)

    def test_no_weights_where_it_is_not_calm(self):
        for world in (THREE, room_of((1, 1)), room_of((3, 2))):
            for worth in ((1, 1), (1, 100), (100, 1)):
                self.assertIs(is_calm(world, tuple((leg, worth) for leg in legs(world))), False)

    def test_other_values(self):
        for thing in STRANGE:
            self.assertIs(is_calm(TWO, thing), False, thing)
            self.assertIs(is_calm(TWO, (thing,) * 4), False, thing)
            self.assertIs(is_calm(EMPTY, thing), thing == () and isinstance(thing, tuple), thing)
            for at in range(4):
                self.assertIs(is_calm(TWO, ONES[:at] + (thing,) + ONES[at + 1:]), False, thing)
                self.assertIs(is_calm(TWO, ONES[:at] + ((thing, (1, 1)),) + ONES[at + 1:]), False, thing)
                self.assertIs(is_calm(TWO, changed(ONES, at, thing)), False, thing)
                if thing != 1 or isinstance(thing, bool):
                    self.assertIs(is_calm(TWO, changed(ONES, at, (thing, 1))), False, thing)
                    self.assertIs(is_calm(TWO, changed(ONES, at, (1, thing))), False, thing)

    def test_lists_where_tuples_stand(self):
        rows = [listed(ONES), list(ONES), ONES[:3] + ([K_THERE, (1, 1)],), ONES[:3] + ((list(K_THERE), (1, 1)),),
                changed(ONES, 3, [1, 1])]
        for thing in rows:
            self.assertIs(is_calm(TWO, thing), False, thing)
        self.assertIs(is_calm(EMPTY, []), False)

    def test_pairs_too_long(self):
        for pair in ((K_THERE, (1, 1), ()), (K_THERE,), (K_THERE, (1, 1, 1)), (K_THERE, (1,)), (K_THERE, 1, 1),
                     (K_THERE + ("k",), (1, 1))):
            self.assertIs(is_calm(TWO, ONES[:3] + (pair,)), False, pair)

    def test_against_the_plain_reading(self):
        found = {True: 0, False: 0}
        for seed in SEEDS:
            world, dice = softened(random_world(seed), seed), random.Random(seed)
            told, gains = weights(world), plain_gains(world)
            after = {leg: [late for late in plain_legs(world) if plain_calm_follows(world, late, leg)] for leg in gains}
            for _ in range(6):
                rows = told or tuple((leg, (1, 1)) for leg in legs(world))
                for at in range(len(rows)):
                    if dice.random() < 0.3:
                        up, down = rows[at][1][0] * dice.randint(1, 5), rows[at][1][1] * dice.randint(1, 5)
                        rows = changed(rows, at, (up // gcd(up, down), down // gcd(up, down)))
                table = {leg: Fraction(*weight) for leg, weight in rows}
                right = all(sum(gains[late] * table[late] for late in after[leg]) < table[leg] for leg in table)
                self.assertIs(is_calm(world, rows), right, (world, rows))
                found[right] += 1
        self.assertGreater(min(found.values()), 100)


def plain_calm_follows(world, late, leg):
    leaves, comes = plain_legs(world)[late], plain_legs(world)[leg]
    return leaves[0] == comes[2] and leaves[1] != comes[3]


class Howls(unittest.TestCase):
    def test_all_calm(self):
        for world in (EMPTY, ONE, TWO, HALL, ROOM, ladder(4)):
            self.assertIsNone(howl(world))

    def test_one_leg_alone(self):
        for gain in ((1, 1), (3, 2), (9, 9)):
            self.assertEqual(howl(room_of(gain)), ((), ("a", "b")))
            self.assertIs(is_howl(room_of(gain), ((), ("a", "b"))), True)
        self.assertIs(is_howl(room_of((8, 9)), ((), ("a", "b"))), False)

    def test_the_first_that_is_not_calm_with_those_ahead(self):
        self.assertEqual(howl(shared_line((1, 1), 2)), ((J_BACK, J_THERE), K_BACK))
        self.assertEqual(howl(shared_line((1, 2), 6)), (tuple(legs(THREE)[:5]), ("l", "there")))
        self.assertEqual(howl((("p", "q"), (("j", "p", "q", (1, 1), (1, 1)), ("k", "p", "q", None, (1, 1)),
                                            ("l", "p", "q", (1, 1), (1, 1))), (), ())),
                         ((J_BACK, J_THERE), K_BACK))

    def test_exactly_1_and_just_below(self):
        part = tuple(legs(THREE)[:5])
        self.assertIs(is_howl(THREE, (part, ("l", "there"))), True)
        low = shared_line((499, 999), 3)
        self.assertIs(is_howl(low, (part, ("l", "there"))), False)
        world = (("p", "q"), (("j", "p", "q", (9, 2), None), ("k", "q", "p", (2, 9), None)), (), ())
        self.assertEqual(howl(world), ((J_THERE,), K_THERE))
        self.assertIs(is_howl(world, ((J_THERE,), K_THERE)), True)
        self.assertIs(is_howl(world, ((K_THERE,), J_THERE)), True)

    def test_more_than_the_told_one(self):
        table = legs(shared_line((1, 1), 3))
        j_back, j_there, k_back, k_there, l_back, l_there = table
        world = shared_line((1, 1), 3)
        for thing in (((j_back,), k_there), ((j_there,), k_back), ((k_there,), j_back), ((k_there,), l_back),
                      ((j_back, l_back), k_there), ((j_back, k_back, l_back), j_there), ((l_there,), k_back)):
            self.assertIs(is_howl(world, thing), True, thing)
        for thing in (((), j_back), ((j_back,), j_there), ((j_back, k_back), l_back), ((j_back, j_there), ("x", "back"))):
            self.assertIs(is_howl(world, thing), False, thing)

    def test_a_part_that_is_not_calm(self):
        world = shared_line((1, 1), 3)
        j_back, j_there, k_back, k_there, l_back, l_there = legs(world)
        self.assertIs(is_howl(world, ((j_back, k_there), l_there)), False)
        self.assertIs(is_howl(world, ((j_back, k_there), j_there)), False)
        self.assertIs(is_howl(world, (tuple(legs(world)[:5]), l_there)), False)

    def test_not_calm_elsewhere_in_the_part(self):
        world = (("p", "q", "r"), (("j", "p", "q", (1, 1), (1, 1)), ("k", "p", "q", (1, 1), (1, 1))),
                 (("a", "r", True, True), ("b", "r", True, True)), (("x", ("a", "b"), (1, 1)),))
        self.assertIs(is_howl(world, ((), ("b", "a"))), True)
        self.assertIs(is_howl(world, ((J_BACK,), ("b", "a"))), True)
        self.assertIs(is_howl(world, ((("a", "b"),), ("b", "a"))), False)
        self.assertIs(is_howl(world, ((("a", "b"),), J_THERE)), False)
        self.assertIs(is_howl(world, ((("a", "b"), J_THERE), K_BACK)), False)
        calm = (world[0], world[1], world[2], (("x", ("a", "b"), (1, 2)),))
        self.assertIs(is_howl(calm, ((("a", "b"), J_BACK), K_THERE)), True)
        self.assertIs(is_howl(calm, ((("a", "b"), J_BACK, K_THERE), ("b", "a"))), False)

    def test_the_leg_in_its_part(self):
        self.assertIs(is_howl(room_of((1, 1)), ((("a", "b"),), ("a", "b"))), False)
        self.assertIs(is_howl(room_of((1, 2)), ((("a", "b"),), ("a", "b"))), False)
        part = tuple(legs(THREE)[:5])
        for leg in part:
            self.assertIs(is_howl(THREE, (part, leg)), False, leg)

    def test_only_rounds_of_the_leg_count(self):
        world = (("p", "q"), (("j", "p", "q", (1, 2), (1, 2)), ("k", "p", "q", (1, 2), (1, 2))),
                 (("a", "q", False, False),), ())
        for leg in legs(world):
            self.assertIs(is_howl(world, (tuple(other for other in legs(world) if other != leg), leg)), False)
        self.assertIs(is_howl(ONE, ((J_BACK,), J_THERE)), False)
        self.assertIs(is_howl(ONE, ((), J_THERE)), False)

    def test_other_values(self):
        part, leg = tuple(legs(THREE)[:5]), ("l", "there")
        self.assertIs(is_howl(THREE, (part, leg)), True)
        wrong = STRANGE + [
            [part, leg], (list(part), leg), (part, list(leg)), (part[:4] + (list(part[4]),), leg), listed((part, leg)),
            (part[::-1], leg), (part[1:] + part[:1], leg), (part + part[4:], leg), (part[:1] + part, leg), (leg, part),
            (part, leg, ()), (part,), (part, (leg,)), ((part,), leg), (part + (("m", "back"),), leg), (None, leg),
            (part, None), (True, leg), (part, True), ("", leg), (0, leg), (part, ("l", "forth")), (part, ("l", 1)),
            (part[:4] + (("k", True),), leg), (part[:4] + (None,), leg), (part[:4] + ((),), leg),
        ]
        for thing in wrong:
            self.assertIs(is_howl(THREE, thing), False, thing)
        for thing in STRANGE:
            self.assertIs(is_howl(THREE, (part, thing)), False, thing)
            self.assertIs(is_howl(THREE, (thing, leg)), False, thing)
            self.assertIs(is_howl(THREE, (part[:4] + (thing,), leg)), False, thing)
            self.assertIs(is_howl(EMPTY, ((), thing)), False, thing)

    def test_told_against_the_plain_reading(self):
        found = 0
        for world in worlds():
            told, table = howl(world), legs(world)
            if plain_calm(world, table):
                self.assertIsNone(told, world)
                continue
            many = min(size for size in range(len(table)) if not plain_calm(world, table[:size + 1]))
            self.assertEqual(told, (tuple(table[:many]), table[many]), world)
            self.assertIs(is_howl(world, told), True, world)
            found += 1
        self.assertGreater(found, 30)

    def test_is_howl_against_the_plain_reading(self):
        found = {True: 0, False: 0}
        for world in worlds():
            dice = random.Random(repr(world))
            for _ in range(8 if legs(world) else 0):
                leg = dice.choice(legs(world))
                part = tuple(other for other in legs(world) if other != leg and dice.random() < 0.7)
                right = plain_calm(world, part) and not plain_calm(world, part + (leg,))
                self.assertIs(is_howl(world, (part, leg)), right, (world, part, leg))
                found[right] += 1
        self.assertGreater(min(found.values()), 30)


class Loud(unittest.TestCase):
    def test_without_a_way(self):
        self.assertEqual(loud(ONE, "a", "a"), (0, 1))
        self.assertEqual(loud(HALL, "b", "a"), (0, 1))
        self.assertEqual(loud((("p",), (), ROOM[2][:1], ()), "a", "a"), (0, 1))

    def test_one_way(self):
        self.assertEqual(loud(ONE, "a", "b"), (1, 2))
        self.assertEqual(loud((("p",), (), ROOM[2], ()), "a", "c"), (1, 1))
        self.assertEqual(loud((("p", "q"), (("j", "p", "q", (6, 4), (9, 3)),), ONE[2], ()), "a", "b"), (3, 2))
        self.assertEqual(loud((("p", "q"), (("j", "p", "q", (6, 4), (9, 3)),), ONE[2], ()), "b", "a"), (3, 1))

    def test_several_ways(self):
        self.assertEqual(loud(ladder(3), "a", "z"), (1, 1))
        self.assertEqual(loud(TWO, "a", "b"), (4, 3))
        self.assertEqual(loud(shared_line((4, 9), 3), "a", "b"), (108, 17))

    def test_gains_above_1(self):
        chain = (("p", "q", "r"), (("j", "p", "q", (9, 1), None), ("k", "q", "r", (7, 2), None)),
                 (("a", "p", True, False), ("b", "r", False, True)), ())
        self.assertEqual(loud(chain, "a", "b"), (63, 2))

    def test_the_gain_of_each_start(self):
        seats = (("a", "p", True, False), ("b", "p", True, False), ("c", "p", False, True))
        for air, told in (((1, 3), (4, 3)), ((5, 1), (6, 1)), ((3, 3), (2, 1))):
            world = (("p",), (), seats, (("r", ("a", "b"), air),))
            self.assertEqual(loud(world, "a", "c"), told)
            self.assertEqual(loud(world, "b", "c"), told)
        world = (("p",), (), seats, (("r", ("a", "b", "c"), (1, 3)),))
        # Each leg weighs 3 with all behind it: from a, 1 and twice 1/3 * 3; from b, a third of that.
        self.assertEqual(loud(world, "a", "c"), (4, 1))
        self.assertEqual(loud(KINDS[:3] + ((),), "s", "t"), (1, 1))

    def test_a_start_and_legs_of_the_room(self):
        self.assertEqual(loud(ROOM, "c", "a"), (2, 1))
        self.assertEqual(loud(ROOM, "a", "c"), (2, 1))
        self.assertEqual(loud(ROOM, "b", "c"), (5, 2))
        self.assertEqual(loud(LOOP, "d", "a"), (1, 1))
        self.assertEqual(loud(LOOP, "d", "b"), (2, 3))
        self.assertEqual(loud(LOOP, "b", "d"), (2, 3))

    def test_not_finite(self):
        self.assertIsNone(loud(THREE, "a", "a"))
        for gain in ((1, 1), (2, 1), (9, 9)):
            self.assertIsNone(loud(room_of(gain), "c", "a"))
            self.assertIsNone(loud(room_of(gain), "b", "c"))

    def test_not_finite_though_there_is_a_way_without_legs(self):
        world = room_of((1, 1))
        self.assertIsNone(loud(world, "c", "a"))
        self.assertIsNone(loud(world, "a", "a"))
        howling = (("p", "q"), (("j", "p", "q", (1, 1), (1, 1)), ("k", "p", "q", (1, 1), (1, 1))),
                   (("a", "p", True, True), ("b", "p", True, True)), ())
        self.assertIsNone(loud(howling, "a", "b"))

    def test_what_howls_elsewhere_does_not_count(self):
        tail = (("p", "q", "r", "t"),
                (("ja", "p", "q", HALF, None), ("jb", "q", "r", (9, 1), (9, 1)), ("jc", "q", "r", (9, 1), (9, 1)),
                 ("je", "p", "t", HALF, None), ("jf", "r", "t", HALF, None)),
                (("a", "p", True, False), ("e", "t", False, True), ("f", "t", True, False), ("g", "r", False, True)), ())
        self.assertIsNone(weights(tail))
        self.assertIsNone(loud(tail, "a", "e"))
        self.assertEqual(loud(tail, "f", "e"), (1, 1))
        self.assertEqual(loud(tail, "f", "g"), (0, 1))
        short = (tail[0], tail[1][:4], tail[2], ())
        self.assertEqual(loud(short, "a", "e"), (1, 2))
        self.assertIsNone(loud(short, "a", "g"))

    def test_against_the_plain_reading(self):
        found = {}
        for world in worlds():
            for speaker, listener in pairs(world):
                told = loud(world, speaker, listener)
                self.assertEqual(told, plain_loud(world, speaker, listener), (world, speaker, listener))
                kind = told if told is None or told == (0, 1) else "finite"
                found[kind] = found.get(kind, 0) + 1
                if told is not None:
                    self.assertEqual(gcd(*told), 1)
        self.assertGreater(min(found.values()), 100)

    def test_ways_added_up_one_by_one(self):
        """The voice is sent on leg by leg; what is heard comes close to what is told, from below."""
        for world in (TWO, LOOP, ROOM, shared_line((1, 4), 3), softened(FULL, 3)):
            for speaker, listener in pairs(world):
                told = loud(world, speaker, listener)
                if told is not None:
                    heard = sent_on(world, speaker, listener, 40)
                    self.assertLessEqual(heard, Fraction(*told))
                    self.assertLess(Fraction(*told) - heard, Fraction(1, 1000))


def sent_on(world, speaker, listener, many):
    """How loud the listener hears the speaker by the ways of at most so many legs."""
    table, gains = plain_legs(world), plain_gains(world)
    airs = [Fraction(*air) for _, members, air in world[3] if speaker in members]
    mates = [name for _, members, _ in world[3] if speaker in members for name in members]
    seats = {seat[0]: seat for seat in world[2]}
    places = {}
    for name in mates or [speaker]:
        if seats[name][2]:
            places[seats[name][1], name] = Fraction(1) if name == speaker else airs[0]
    heard = Fraction(0)
    for _ in range(many + 1):
        heard += sum(places[bridge, line] for bridge, line in places
                     if bridge == seats[listener][1] and line != listener)
        later = {}
        for leg, (leaves, out, comes, by) in table.items():
            came = sum(places[bridge, line] for bridge, line in places if bridge == leaves and line != out)
            later[comes, by] = later.get((comes, by), 0) + came * gains[leg]
        places = {place: Fraction(round(later[place] * 10 ** 30), 10 ** 30) for place in later}
    return heard


class Errors(unittest.TestCase):
    def test_speaker_and_listener(self):
        cases = [("x", "y", NoSeat, "x"), ("s", "y", NoSeat, "y"), ("e", "y", NoSeat, "y"), ("p", "t", NoSeat, "p"),
                 ("e", "s", NoVoice, "e"), ("m", "m", NoVoice, "m"), ("e", "e", NoVoice, "e"), ("s", "s", NoEar, "s"),
                 ("t", "m", NoEar, "m")]
        for speaker, listener, error, name in cases:
            with self.assertRaises(error) as caught:
                loud(KINDS, speaker, listener)
            self.assertEqual(caught.exception.name, name)
        with self.assertRaises(NoSeat) as caught:
            loud(EMPTY, "a", "b")
        self.assertEqual(caught.exception.name, "a")


if __name__ == "__main__":
    unittest.main()
