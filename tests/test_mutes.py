"""What to shut or to change, so that all that is wished is still heard: [1] (d), (e) and [9]."""

import random
import unittest

from minusone.data import follows, legs
from minusone.errors import NoEar, NoLeg, NoSeat, NoVoice
from minusone.mutes import fewest_calm, fewest_mutes, first_trouble, order_for
from minusone.net import Net
from minusone.rows import short_ring
from minusone.sums import howling_legs
from worlds import (EMPTY, FULL, HALF, HALL, KINDS, LOOP, ONE, ROOM, THREE, TWO, ladder, less, listed, pairs,
                    plain_calm, plain_fewest_calm, plain_fewest_mutes, plain_least_ring, plain_legs, plain_order_for,
                    plain_troubles, plain_way, random_world, shared_line, softened)

J_BACK, J_THERE, K_BACK, K_THERE = legs(TWO)
LATE = (K_BACK, K_THERE)
THERE, BACK = ("a", "b"), ("b", "a")


def small_worlds(many):
    """Worlds of at most so many legs, with hard and with soft gains."""
    worlds = [EMPTY, HALL, KINDS, LOOP, ONE, ROOM, THREE, TWO]
    for seed in range(150):
        worlds.extend([random_world(seed), softened(random_world(seed), seed)])
    return [world for world in worlds if len(legs(world)) <= many]


def some_wishes(world, dice):
    """None, one and up to four wishes of this world, ascending."""
    every = pairs(world)
    found = [()]
    if every:
        found.append((dice.choice(every),))
        found.append(tuple(sorted(dice.sample(every, min(len(every), dice.randint(2, 4))))))
    return found


def air(name, *seats):
    """One bridge and a room of these seats, which speak and hear."""
    rows = tuple((seat, "p", True, True) for seat in seats)
    return (("p",), (), rows, ((name, seats, HALF),))


def triangle(*ways):
    """Three bridges in a ring, each way of a join open where it is named; a, b and c speak and hear there."""
    joins = []
    for name, one, other in (("j", "p", "q"), ("k", "q", "r"), ("l", "r", "p")):
        joins.append((name, one, other, HALF if name + "t" in ways else None, HALF if name + "b" in ways else None))
    seats = tuple((seat, bridge, True, True) for seat, bridge in zip("abc", "pqr"))
    return (("p", "q", "r"), tuple(joins), seats, ())


class FewestMutes(unittest.TestCase):
    def test_nothing_to_shut(self):
        for world in (EMPTY, ONE, HALL, ladder(3), triangle("jt", "kt")):
            self.assertEqual(fewest_mutes(world, ()), (), world)
        self.assertEqual(fewest_mutes(ONE, (THERE, BACK)), ())
        self.assertEqual(fewest_mutes(ladder(3), (("a", "z"),)), ())

    def test_the_fewest(self):
        self.assertEqual(fewest_mutes(triangle("jt", "kt", "lt"), ()), (("j", "there"),))
        self.assertEqual(fewest_mutes(triangle("jt", "kt", "lt", "jb", "kb", "lb"), ()), (J_BACK, J_THERE))
        # The ring of a leg that follows itself, and one of two legs that have one in common with a third.
        self.assertEqual(fewest_mutes(ROOM, ()), (("a", "b"),))
        world = (("p", "q"), (("j", "p", "q", HALF, None), ("k", "p", "q", HALF, None), ("l", "p", "q", None, HALF)),
                 ONE[2], ())
        self.assertEqual(fewest_mutes(world, ()), (("l", "back"),))
        self.assertEqual(fewest_mutes(world, (THERE,)), (("l", "back"),))
        self.assertEqual(fewest_mutes(world, (BACK,)), (("j", "there"), ("k", "there")))
        self.assertIsNone(fewest_mutes(world, (THERE, BACK)))

    def test_of_several_the_least(self):
        self.assertEqual(fewest_mutes(TWO, ()), (J_BACK, J_THERE))
        self.assertEqual(fewest_mutes(TWO, (THERE,)), (J_BACK, J_THERE))
        for many in range(2, 7):
            world = shared_line(HALF, many)
            backs = tuple((name, "back") for name in "jklmno"[:many])
            told = fewest_mutes(world, ())
            self.assertEqual(told, (J_BACK, J_THERE) if many == 2 else backs)
            self.assertEqual(fewest_mutes(world, (THERE,)), told)

    def test_a_wish_says_which(self):
        world = triangle("jt", "kt", "lt")
        self.assertEqual(fewest_mutes(world, (("a", "b"),)), (("k", "there"),))
        self.assertEqual(fewest_mutes(world, (("a", "c"),)), (("l", "there"),))
        self.assertEqual(fewest_mutes(world, (("b", "c"),)), (J_THERE,))
        self.assertIsNone(fewest_mutes(world, (("a", "b"), ("b", "c"), ("c", "a"))))

    def test_more_must_be_shut_where_more_is_wished(self):
        joins = (("j", "p", "q", HALF, HALF), ("k", "p", "q", None, HALF), ("l", "p", "q", None, HALF))
        world = (("p", "q"), joins, ONE[2], ())
        self.assertEqual(fewest_mutes(world, ()), (J_THERE,))
        self.assertEqual(fewest_mutes(world, (THERE,)), (("k", "back"), ("l", "back")))
        self.assertEqual(fewest_mutes(world, (THERE, BACK)), (("k", "back"), ("l", "back")))

    def test_a_leg_that_follows_itself(self):
        self.assertEqual(fewest_mutes(air("r", "a", "b"), ()), (("a", "b"), ("b", "a")))
        self.assertEqual(fewest_mutes(air("r", "a", "b", "c"), ()), tuple(legs(air("r", "a", "b", "c"))))
        self.assertEqual(fewest_mutes(ROOM, (("a", "c"), ("c", "a"))), (("a", "b"),))

    def test_a_wish_that_is_heard_at_once(self):
        world = air("r", "a", "b", "c")
        self.assertEqual(fewest_mutes(world, (("a", "b"), ("b", "c"))), tuple(legs(world)))
        # The voice of a starts at b, too, where the leg is shut.
        self.assertEqual(fewest_mutes(ROOM, (("a", "a"),)), (("a", "b"),))

    def test_the_same_seat_speaks_and_listens(self):
        world = (("p", "q"), (("j", "p", "q", HALF, None), ("k", "p", "q", None, HALF)), ONE[2], ())
        self.assertEqual(fewest_mutes(world, ()), (J_THERE,))
        self.assertIsNone(fewest_mutes(world, (("a", "a"),)))
        self.assertIsNone(fewest_mutes(TWO, (("a", "a"),)))
        self.assertIsNone(fewest_mutes(ONE, (("a", "a"),)))
        seats = ONE[2][:1] + (("d", "p", True, False), ("e", "p", False, True))
        self.assertEqual(fewest_mutes((("p",), (), seats, (("r", ("a", "d"), HALF),)), (("a", "a"),)), (("a", "d"),))

    def test_wishes_that_cannot_be_kept(self):
        parted = (ONE[0], (), ONE[2], ())
        self.assertIsNone(fewest_mutes(parted, (THERE,)))
        self.assertEqual(fewest_mutes(parted, ()), ())
        self.assertIsNone(fewest_mutes(LOOP, (("d", "b"), ("b", "b"), ("b", "a"))))

    def test_against_the_plain_reading(self):
        found = {}
        for seed, world in enumerate(small_worlds(10)):
            for wishes in some_wishes(world, random.Random(seed)):
                told = fewest_mutes(world, wishes)
                self.assertEqual(told, plain_fewest_mutes(world, wishes), (world, wishes))
                many = None if told is None else len(told)
                found[many] = found.get(many, 0) + 1
        self.assertGreater(min(found[many] for many in (None, 0, 1, 2, 3)), 10)

    def test_what_is_left_is_right(self):
        """Also above the bound of the legs: nothing goes round, all is heard, and no leg is shut for nothing."""
        for world in [FULL] + [random_world(seed) for seed in range(60)]:
            wishes = tuple(pairs(world)[:2])
            told = fewest_mutes(world, wishes)
            for at in range(-1, len(told or ())):
                if told is not None:
                    left = less(world, told[:at] + told[at + 1:] if at >= 0 else told)
                    self.assertIs(plain_least_ring(left) is None, at < 0)
                    self.assertNotIn(None, [plain_way(left, *wish) for wish in wishes])


class FewestCalm(unittest.TestCase):
    def test_small_gains(self):
        for world in (TWO, ONE, EMPTY, ROOM, shared_line((1, 9), 6), softened(FULL, 3)):
            self.assertEqual(fewest_calm(world, ()), (), world)
        self.assertEqual(fewest_calm(TWO, (("a", "a"), ("a", "b"), ("b", "a"), ("b", "b"))), ())
        self.assertEqual(fewest_calm(THREE, ()), (("j", "back"),))
        self.assertEqual(fewest_calm(shared_line((2, 8), 5), ()), (("j", "back"),))

    def test_gains_of_1_and_above(self):
        """All that goes round must be shut there, as without gains."""
        for gain in ((1, 1), (3, 2)):
            for many in (1, 2, 3, 4):
                world = shared_line(gain, many)
                for wishes in ((), (THERE,), (THERE, BACK), (("a", "a"),)):
                    self.assertEqual(fewest_calm(world, wishes), fewest_mutes(world, wishes), (world, wishes))

    def test_great_gains_that_do_not_go_round(self):
        world = (("p", "q", "r"), (("j", "p", "q", (9, 1), None), ("k", "q", "r", (7, 2), None)), (), ())
        self.assertEqual(fewest_calm(world, ()), ())

    def test_a_leg_that_follows_itself(self):
        for gain, shut in (((1, 2), ()), ((998, 999), ()), ((1, 1), (("a", "b"),)), ((3, 1), (("a", "b"),))):
            world = (ROOM[0], ROOM[1], ROOM[2], (("r", ("a", "b"), gain),))
            for wishes in ((), (("a", "c"), ("c", "a")), (("a", "a"), ("c", "c"))):
                # The voice of c comes back to c over this leg alone.
                wanted = None if shut and ("c", "c") in wishes else shut
                self.assertEqual(fewest_calm(world, wishes), wanted, (gain, wishes))

    def test_wishes_that_cannot_be_kept(self):
        world = shared_line((1, 1), 2)
        self.assertIsNone(fewest_calm(world, (("a", "a"),)))
        self.assertEqual(fewest_calm(shared_line((9, 10), 2), (("a", "a"),)), ())
        self.assertIsNone(fewest_calm((ONE[0], (), ONE[2], ()), (THERE,)))

    def test_the_loudest_need_not_go(self):
        """Two small rounds hang on a leg that is less loud than any other of them."""
        joins = (("j", "p", "q", (3, 1), None), ("k", "p", "q", (3, 1), None), ("l", "p", "q", None, HALF))
        world = (("p", "q"), joins, ONE[2], ())
        self.assertEqual(fewest_calm(world, ()), (("l", "back"),))
        self.assertEqual(fewest_calm(world, (BACK,)), (("j", "there"), ("k", "there")))

    def test_against_the_plain_reading(self):
        found = {}
        for seed, world in enumerate(small_worlds(7)):
            for wishes in some_wishes(world, random.Random(seed)):
                told = fewest_calm(world, wishes)
                self.assertEqual(told, plain_fewest_calm(world, wishes), (world, wishes))
                many = None if told is None else len(told)
                found[many] = found.get(many, 0) + 1
                if told != fewest_mutes(world, wishes):
                    found["other"] = found.get("other", 0) + 1
        self.assertGreater(min(found[many] for many in (None, 0, 1, 2, "other")), 10)

    def test_what_is_left_is_calm(self):
        for seed in range(60):
            for world in (random_world(seed), softened(random_world(seed), seed)):
                wishes = tuple(pairs(world)[:2])
                told = fewest_calm(world, wishes)
                if told is None:
                    continue
                left = less(world, told)
                self.assertTrue(plain_calm(left, sorted(plain_legs(left))))
                self.assertNotIn(None, [plain_way(left, *wish) for wish in wishes])
                for at in range(len(told)):
                    more = less(world, told[:at] + told[at + 1:])
                    self.assertFalse(plain_calm(more, sorted(plain_legs(more))))


class WhereTheSearchGoesOn(unittest.TestCase):
    """One of these legs must be shut: the fewer there are, the less is tried."""

    def test_short_rings(self):
        for world in small_worlds(16) + [FULL]:
            told, least = short_ring(Net(world)), plain_least_ring(world) or ()
            self.assertEqual(len(told), len(least), world)
            self.assertEqual(len(set(told)), len(told))
            for ahead, leg in zip(told[-1:] + told, told):
                self.assertIs(follows(world, leg, ahead), True)

    def test_legs_that_howl_only_all_together(self):
        found = {}
        for world in small_worlds(16) + [FULL, softened(FULL, 1), shared_line((1, 4), 6), shared_line((1, 5), 6)]:
            told = howling_legs(Net(world))
            self.assertEqual(len(set(told)), len(told))
            self.assertIs(told == [], plain_calm(world, legs(world)))
            if told:
                self.assertFalse(plain_calm(world, told))
            for leg in told:
                self.assertTrue(plain_calm(world, [other for other in told if other != leg]))
            found[len(told)] = found.get(len(told), 0) + 1
        self.assertGreater(len(found), 5)


class OrderFor(unittest.TestCase):
    def test_no_changes(self):
        self.assertEqual(order_for(TWO, LATE, (), (THERE, BACK)), ())
        self.assertEqual(order_for(EMPTY, (), (), ()), ())
        self.assertEqual(order_for(TWO, tuple(legs(TWO)), (), ()), ())
        self.assertIsNone(order_for(TWO, (), (), ()))
        self.assertIsNone(order_for(TWO, LATE, (), (("a", "a"),)))

    def test_the_beginning_does_not_hold(self):
        """By none of the orders: it is not right before the first change."""
        self.assertIsNone(order_for(TWO, (), (J_BACK, J_THERE), ()))
        self.assertIsNone(order_for(TWO, (), (J_BACK, J_THERE), (THERE,)))
        self.assertIsNone(order_for(TWO, tuple(legs(TWO)), (J_THERE,), (THERE,)))

    def test_only_the_end_does_not_hold(self):
        self.assertIsNone(order_for(TWO, (J_BACK, J_THERE, K_BACK), (J_BACK,), (THERE,)))
        self.assertIsNone(order_for(TWO, LATE, (J_THERE,), (THERE,)))
        self.assertEqual(first_trouble(TWO, LATE, (J_THERE,), (THERE,)), 1)

    def test_nothing_shut_in_the_beginning(self):
        self.assertEqual(order_for(ONE, (), (J_BACK, J_THERE), ()), (J_BACK, J_THERE))
        self.assertIsNone(order_for(ONE, (), (J_BACK, J_THERE), (THERE,)))
        self.assertEqual(order_for(ONE, (), (J_BACK,), (THERE,)), (J_BACK,))
        self.assertIsNone(order_for(ONE, (), (J_THERE,), (THERE,)))

    def test_everything_shut_in_the_beginning(self):
        every = tuple(legs(TWO))
        self.assertIsNone(order_for(TWO, every, every, ()))
        self.assertEqual(order_for(TWO, every, (J_THERE, K_THERE), ()), (J_THERE, K_THERE))
        self.assertEqual(order_for(TWO, every, (J_BACK, J_THERE), ()), (J_BACK, J_THERE))
        self.assertIsNone(order_for(TWO, every, (J_BACK, K_THERE), ()))
        self.assertIsNone(order_for(TWO, every, (J_BACK, J_THERE), (THERE,)))

    def test_must_not_begin_with_the_least_change(self):
        # j.there must be open before k.there is shut, but not beside k.back.
        self.assertEqual(order_for(TWO, (J_BACK, J_THERE), tuple(legs(TWO)), (THERE,)),
                         (K_BACK, J_THERE, K_THERE, J_BACK))
        self.assertEqual(order_for(TWO, (J_BACK, J_THERE), (J_THERE, K_BACK), (THERE,)), (K_BACK, J_THERE))
        self.assertEqual(order_for(TWO, (J_BACK, J_THERE), (J_BACK, K_THERE), ()), (K_THERE, J_BACK))
        world = triangle("jt", "kt", "lt", "jb", "kb", "lb")
        shut = (J_BACK, ("k", "back"), ("l", "back"), ("l", "there"))
        self.assertEqual(order_for(world, shut, (("k", "there"), ("l", "back")), (("a", "b"), ("a", "c"))),
                         (("l", "back"), ("k", "there")))

    def test_a_change_that_seems_good_leads_nowhere(self):
        """The least change is right as the first one, but neither of the others can come behind it."""
        joins = (("jx", "t", "p", HALF, None), ("jy", "s", "t", HALF, None), ("jz", "p", "q", HALF, None),
                 ("k", "q", "s", HALF, None), ("l", "q", "u", HALF, None), ("m", "t", "u", HALF, None))
        seats = (("a", "p", True, False), ("b", "s", True, False), ("z", "u", False, True))
        world = (("p", "q", "s", "t", "u"), joins, seats, (("r", ("a", "b"), HALF),))
        x_leg, y_leg, z_leg = [(name, "there") for name in ("jx", "jy", "jz")]
        for order, trouble in (((x_leg,), None), ((x_leg, y_leg), 2), ((x_leg, z_leg), 2), ((y_leg, x_leg), 2)):
            self.assertEqual(first_trouble(world, (x_leg, y_leg), order, (("a", "z"),)), trouble)
        self.assertEqual(order_for(world, (x_leg, y_leg), (x_leg, y_leg, z_leg), (("a", "z"),)), (y_leg, z_leg, x_leg))

    def test_without_wishes(self):
        self.assertEqual(order_for(TWO, LATE, tuple(legs(TWO)), ()), (J_BACK, J_THERE, K_BACK, K_THERE))

    def test_the_air(self):
        own = ("a", "b")
        self.assertEqual(order_for(ROOM, (own,), (), (("a", "c"), ("c", "a"))), ())
        self.assertIsNone(order_for(ROOM, (own,), (own,), ()))
        self.assertIsNone(order_for(ROOM, (), (own,), ()))
        self.assertEqual(order_for(LOOP, (J_THERE,), (("b", "a"), J_THERE), ()), (("b", "a"), J_THERE))
        self.assertEqual(order_for(LOOP, (("b", "a"),), (("b", "a"), J_THERE), ()), (J_THERE, ("b", "a")))

    def case(self, seed, most):
        """A world, what is shut, changes and wishes that are mostly right in the beginning."""
        dice = random.Random(seed)
        world = random_world(seed)
        while not 3 <= len(legs(world)) <= most:
            seed += 1000
            world = random_world(seed)
        table = legs(world)
        wishes = tuple(sorted(dice.sample(pairs(world), min(len(pairs(world)), dice.randint(0, 2)))))
        shut = fewest_mutes(world, wishes)
        if shut is None or dice.random() < 0.1:
            shut = tuple(sorted(dice.sample(table, dice.randint(0, len(table)))))
        changes = tuple(sorted(dice.sample(table, dice.randint(1, min(5, len(table))))))
        return world, shut, changes, wishes

    def test_against_the_plain_reading(self):
        found = {}
        for seed in range(400):
            world, shut, changes, wishes = self.case(seed, 12)
            told = order_for(world, shut, changes, wishes)
            self.assertEqual(told, plain_order_for(world, shut, changes, wishes), (world, shut, changes, wishes))
            kind = None if told is None else told == changes
            found[kind] = found.get(kind, 0) + 1
            if told is not None:
                self.assertIsNone(first_trouble(world, shut, told, wishes))
        self.assertGreater(min(found[kind] for kind in (None, True, False)), 10)

    def test_all_legs_of_a_large_world(self):
        """More changes than the bound: 12 legs, open one way in the beginning, the other way in the end."""
        world = shared_line(HALF, 6)
        theres = tuple((name, "there") for name in "jklmno")
        backs = tuple((name, "back") for name in "jklmno")
        told = order_for(world, theres, tuple(legs(world)), ())
        self.assertEqual(plain_troubles(world, theres, told, ()), [])
        self.assertEqual(told, backs + theres)
        # Both ways of one join may be open together, but not those of two.
        changes = tuple(sorted(backs[1:] + theres[:1]))
        self.assertEqual(order_for(world, theres, changes, (BACK,)), backs[1:] + theres[:1])
        self.assertIsNone(order_for(world, theres, tuple(legs(world)), (THERE, BACK)))


class FirstTrouble(unittest.TestCase):
    def test_none(self):
        self.assertIsNone(first_trouble(TWO, LATE, (), (THERE, BACK)))
        self.assertIsNone(first_trouble(EMPTY, (), (), ()))
        self.assertIsNone(first_trouble(TWO, LATE, (J_BACK, K_THERE, J_THERE, K_BACK), (THERE,)))

    def test_0(self):
        self.assertEqual(first_trouble(TWO, (), (), ()), 0)
        self.assertEqual(first_trouble(TWO, (), (J_BACK, J_THERE), ()), 0)
        self.assertEqual(first_trouble(TWO, LATE, (), (("a", "a"),)), 0)
        self.assertEqual(first_trouble(TWO, tuple(legs(TWO)), (J_THERE,), (THERE,)), 0)

    def test_the_number_of_all_changes(self):
        self.assertEqual(first_trouble(TWO, LATE, (J_THERE,), (THERE,)), 1)
        self.assertEqual(first_trouble(TWO, LATE, (J_BACK, K_THERE, K_BACK), (THERE,)), 3)
        self.assertEqual(first_trouble(ONE, (), (J_BACK, J_THERE), (THERE,)), 2)
        self.assertEqual(first_trouble(ONE, (), (J_THERE, J_BACK), (THERE,)), 1)

    def test_not_the_last_time(self):
        self.assertEqual(first_trouble(TWO, LATE, (K_THERE, J_BACK), (THERE,)), 1)
        self.assertEqual(first_trouble(TWO, LATE, (J_BACK, K_BACK, J_THERE, K_THERE), (THERE,)), 2)

    def test_any_order(self):
        self.assertEqual(first_trouble(TWO, tuple(legs(TWO)), (K_THERE, J_THERE, J_BACK), ()), 3)
        self.assertEqual(first_trouble(TWO, tuple(legs(TWO)), (K_THERE, J_BACK, J_THERE), ()), 2)
        self.assertEqual(first_trouble(TWO, tuple(legs(TWO)), (K_THERE, K_BACK, J_THERE), ()), 3)

    def test_against_the_plain_reading(self):
        found = {}
        for seed in range(400):
            dice = random.Random(seed)
            world, shut, changes, wishes = OrderFor().case(seed, 16)
            order = tuple(dice.sample(changes, len(changes)))
            told = first_trouble(world, shut, order, wishes)
            troubles = plain_troubles(world, shut, order, wishes)
            self.assertEqual(told, troubles[0] if troubles else None, (world, shut, order, wishes))
            found[told] = found.get(told, 0) + 1
        self.assertGreater(min(found[many] for many in (None, 0, 1, 2, 3)), 3)


class Errors(unittest.TestCase):
    def calls(self, world, wishes, shut=(), changes=()):
        return [(fewest_mutes, (world, wishes)), (fewest_calm, (world, wishes)),
                (order_for, (world, shut, changes, wishes)), (first_trouble, (world, shut, changes, wishes))]

    def wrong(self, error, name, world, wishes, shut=(), changes=()):
        for call, given in self.calls(world, wishes, shut, changes):
            for change in (tuple, listed):
                with self.assertRaises(error) as caught:
                    call(*change(given))
                self.assertEqual(caught.exception.name, name, call)

    def no_leg(self, leg, world, shut, changes, wishes=()):
        for call in (order_for, first_trouble):
            for change in (tuple, listed):
                with self.assertRaises(NoLeg) as caught:
                    call(*change((world, shut, changes, wishes)))
                self.assertEqual(caught.exception.leg, leg)
                self.assertIs(caught.exception.leg.__class__, tuple)

    def test_one_wish(self):
        for speaker, listener, error, name in (
                ("x", "y", NoSeat, "x"), ("s", "y", NoSeat, "y"), ("e", "y", NoSeat, "y"), ("p", "t", NoSeat, "p"),
                ("r", "t", NoSeat, "r"), ("e", "s", NoVoice, "e"), ("m", "m", NoVoice, "m"), ("s", "s", NoEar, "s"),
                ("t", "m", NoEar, "m"), ("x", "x", NoSeat, "x")):
            self.wrong(error, name, KINDS, ((speaker, listener),))
        self.wrong(NoSeat, "a", EMPTY, (("a", "b"),))

    def test_wish_by_wish(self):
        """All reasons of the first wish come before those of the second one."""
        self.wrong(NoEar, "m", KINDS, (("s", "m"), ("x", "y")))
        self.wrong(NoVoice, "e", KINDS, (("e", "m"), ("s", "m"), ("x", "y")))
        self.wrong(NoVoice, "m", KINDS, (("m", "e"), ("s", "x")))
        self.wrong(NoSeat, "x", KINDS, (("s", "e"), ("s", "t"), ("t", "x"), ("x", "y")))
        self.wrong(NoEar, "s", KINDS, (("s", "s"), ("x", "e")))

    def test_wishes_before_legs(self):
        none = (("x", "there"),)
        self.wrong(NoSeat, "x", KINDS, (("x", "y"),), none, none)
        self.wrong(NoEar, "m", KINDS, (("s", "e"), ("t", "m")), none, none)

    def test_legs(self):
        none, other = ("x", "there"), ("y", "there")
        self.no_leg(none, TWO, (none,), ())
        self.no_leg(none, TWO, (), (none,))
        self.no_leg(none, TWO, (J_BACK, none), (other,))
        self.no_leg(other, TWO, (other,), (J_BACK, none))
        self.no_leg(none, TWO, (J_BACK,), (J_BACK, none, other), (THERE,))
        self.no_leg(none, EMPTY, (), (none,))
        self.no_leg(("a", "b"), TWO, (("a", "b"),), ())

    def test_what_is_shut_in_the_world_is_no_leg(self):
        world = (TWO[0], (("j", "p", "q", None, HALF), ("k", "p", "q", HALF, HALF)), TWO[2], ())
        self.no_leg(J_THERE, world, (J_THERE,), ())
        self.no_leg(J_THERE, world, (J_BACK,), (J_THERE,))
        self.no_leg(("a", "e"), KINDS, (("a", "e"),), ())
        self.no_leg(("s", "e"), KINDS, (), (("e", "s"), ("s", "e")))

    def test_a_leg_that_is_none_though_the_beginning_does_not_hold(self):
        self.no_leg(("x", "there"), TWO, (), (("x", "there"),))
        self.no_leg(("x", "there"), TWO, (), (J_BACK, ("x", "there")), (("a", "a"),))


if __name__ == "__main__":
    unittest.main()
