"""What goes round, and which joins are spare: [1] (d) and [6]."""

import unittest

from minusone.data import follows, legs
from minusone.rings import has_ring, least_ring, spare_joins
from worlds import (EMPTY, FULL, HALF, HALL, KINDS, LOOP, ONE, ROOM, THREE, TWO, ladder, opened, plain_least_ring,
                    plain_spare_joins, random_world, shared_line)

SEEDS = range(150)


def joined(*ends):
    """Joins open both ways between these bridges, called ja, jb, .."""
    bridges = tuple(sorted({bridge for pair in ends for bridge in pair}))
    joins = tuple(("j" + letter, one, other, HALF, HALF) for letter, (one, other) in zip("abcdefghi", ends))
    return (bridges, joins, (), ())


class Rings(unittest.TestCase):
    def none(self, world):
        self.assertIs(has_ring(world), False, world)
        self.assertIsNone(least_ring(world), world)

    def least(self, world, *ring):
        self.assertIs(has_ring(world), True, world)
        self.assertEqual(least_ring(world), ring, world)

    def test_no_ring(self):
        for world in (EMPTY, ONE, HALL, ladder(3), (("p",), (), (), ()), joined("pq", "qr", "rs", "qt")):
            self.none(world)

    def test_a_row_there_and_back_by_one_join_is_no_ring(self):
        self.none(joined("pq", "qr"))
        self.none((("p", "q"), (("j", "p", "q", (9, 1), (9, 1)),), (), ()))

    def test_a_shut_way_parts_the_ring(self):
        self.none((("p", "q"), (("j", "p", "q", HALF, None), ("k", "p", "q", HALF, None)), (), ()))
        self.none((("p", "q"), (("j", "p", "q", HALF, None), ("k", "q", "p", None, HALF)), (), ()))
        self.least((("p", "q"), (("j", "p", "q", HALF, None), ("k", "q", "p", HALF, None)), (), ()),
                   ("j", "there"), ("k", "there"))

    def test_one_leg_that_follows_itself(self):
        self.least(ROOM, ("a", "b"))
        self.least(KINDS, ("e", "s"))
        self.none((("p", "q"), (), HALL[2], HALL[3]))

    def test_of_rings_of_one_leg_the_least(self):
        seats = tuple((name, "p", True, True) for name in "abc")
        self.least((("p",), (), seats, (("r", ("b", "c"), HALF),)), ("b", "c"))
        self.least((("p",), (), seats, (("r", ("a", "b", "c"), HALF),)), ("a", "b"))
        self.least((("p",), (), (("a", "p", True, False), ("b", "p", False, True), ("c", "p", True, True)),
                    (("r", ("a", "b", "c"), HALF),)), ("b", "a"))

    def test_of_several_the_least(self):
        self.least(TWO, ("j", "back"), ("k", "there"))
        self.least(THREE, ("j", "back"), ("k", "there"))
        self.least(joined("pq", "pq", "qr", "rp"), ("ja", "back"), ("jb", "there"))

    def test_fewer_legs_come_before_less_ones(self):
        self.least(joined("pq", "qr", "rp", "st", "st"), ("jd", "back"), ("je", "there"))
        seats = (("y", "t", True, True), ("z", "t", True, True))
        world = joined("pq", "qr", "rp", "st", "st")
        self.least(world[:2] + (seats, (("r", ("y", "z"), HALF),)), ("y", "z"))

    def test_the_first_is_the_least_of_the_ring(self):
        self.least(joined("rp", "pq", "qr"), ("ja", "back"), ("jc", "back"), ("jb", "back"))
        self.least((("p", "q", "r"), (("ja", "p", "q", None, HALF), ("jb", "q", "r", HALF, HALF),
                                      ("jc", "r", "p", None, HALF)), (), ()),
                   ("ja", "back"), ("jc", "back"), ("jb", "back"))
        self.none((("p", "q", "r"), (("ja", "p", "q", None, HALF), ("jb", "q", "r", HALF, None),
                                     ("jc", "r", "p", None, HALF)), (), ()))

    def test_a_room_closes_a_ring(self):
        self.least(LOOP, ("b", "a"), ("j", "there"))
        self.none((LOOP[0], LOOP[1], LOOP[2], ()))

    def test_the_largest_world(self):
        self.assertEqual(least_ring(FULL), plain_least_ring(FULL))

    def test_against_the_plain_reading(self):
        found = {}
        for seed in SEEDS:
            world = random_world(seed)
            ring = least_ring(world)
            self.assertEqual(ring, plain_least_ring(world), world)
            self.assertIs(has_ring(world), ring is not None, world)
            size = 0 if ring is None else len(ring)
            found[size] = found.get(size, 0) + 1
            if ring is not None:
                self.is_ring(world, ring)
        self.assertGreater(min(found[size] for size in (0, 1, 2, 3)), 2)

    def is_ring(self, world, ring):
        self.assertEqual(len(set(ring)), len(ring))
        self.assertEqual(ring[0], min(ring))
        self.assertEqual([leg for leg in ring if leg not in legs(world)], [])
        for ahead, leg in zip(ring[-1:] + ring, ring):
            self.assertIs(follows(world, leg, ahead), True)


class Spare(unittest.TestCase):
    def spare(self, world, *names):
        self.assertEqual(spare_joins(world), names, world)

    def test_none_spare(self):
        for world in (EMPTY, ONE, joined("pq", "qr", "rs"), (("p", "q"), (), (), ())):
            self.spare(world)

    def test_joins_of_the_same_bridges(self):
        self.spare(TWO, "j")
        self.spare(joined("pq", "qp", "pq"), "ja", "jb")
        self.spare(shared_line((1, 2), 6), "j", "k", "l", "m", "n")

    def test_the_least(self):
        self.spare(joined("pq", "qr", "rp"), "ja")
        self.spare(joined("pq", "rs", "qr", "sp"), "ja")
        self.spare(joined("pq", "qr", "rp", "rs"), "ja")
        self.spare(joined("pq", "rs", "rs", "pq"), "ja", "jb")
        self.spare(joined("rs", "pq", "qr", "rp", "pq"), "jb", "jc")

    def test_what_is_needed_is_not_spare(self):
        self.spare(joined("rs", "pq", "qr", "rp"), "jb")
        self.spare(joined("pq", "qr", "st", "st"), "jc")

    def test_parts_that_do_not_hang_together(self):
        world = joined("pq", "pq", "rs", "rs", "rs")
        self.spare(world, "ja", "jc", "jd")
        self.assertEqual(len(spare_joins(world)), len(world[1]) - len(world[0]) + 2)
        self.spare((("p", "q", "r", "s"), TWO[1], (), ()), "j")

    def test_other_ways_round_and_gains_do_not_matter(self):
        self.spare((("p", "q"), (("j", "p", "q", (1, 9), (9, 1)), ("k", "q", "p", (2, 2), (1, 1))), (), ()), "j")

    def test_seats_do_not_matter(self):
        self.spare((TWO[0], TWO[1], (), ()), "j")
        self.assertEqual(spare_joins(opened(FULL)), plain_spare_joins(opened(FULL)))

    def test_against_the_plain_reading(self):
        found = {}
        for seed in SEEDS:
            world = opened(random_world(seed))
            told = spare_joins(world)
            self.assertEqual(told, plain_spare_joins(world), world)
            found[len(told)] = found.get(len(told), 0) + 1
        self.assertGreater(min(found[many] for many in (0, 1, 2, 3, 4)), 5)

    def test_nothing_goes_round_without_them_and_with_any_one_of_them(self):
        for seed in SEEDS:
            world = opened(random_world(seed))
            told = spare_joins(world)
            for back in (None,) + told:
                joins = tuple(join for join in world[1] if join[0] not in told or join[0] == back)
                self.assertIs(has_ring((world[0], joins, (), ())), back is not None, (world, back))


if __name__ == "__main__":
    unittest.main()
