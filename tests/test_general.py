"""The general rules and the bounds: [2] and [3]; the arguments of the interface: [12]."""

import copy
import inspect
import unittest

from minusone import cuts, data, desk, errors, loud, mutes, rings, texts, ways
from worlds import (EMPTY, FULL, HALL, KINDS, LOOP, ONE, ROOM, THREE, TWO, ears, listed, mixed, opened, pairs,
                    plain_fewest_calm, plain_fewest_mutes, plain_legs, plain_order_for, plain_troubles, random_world,
                    softened)

NAMES = {
    data.is_world: ["thing"], data.legs: ["world"], data.follows: ["world", "leg", "ahead"],
    data.is_way: ["world", "speaker", "listener", "thing"],
    ways.times: ["world", "speaker", "listener"], ways.way: ["world", "speaker", "listener"],
    ways.reached: ["world", "speaker"], ways.hearers: ["world", "speaker"],
    ways.echo: ["world", "speaker", "listener"], ways.is_echo: ["world", "speaker", "listener", "thing"],
    rings.has_ring: ["world"], rings.least_ring: ["world"], rings.spare_joins: ["world"],
    loud.weights: ["world"], loud.is_calm: ["world", "thing"], loud.howl: ["world"],
    loud.is_howl: ["world", "thing"], loud.loud: ["world", "speaker", "listener"],
    cuts.fewest_shut: ["world", "speaker", "listener"], cuts.apart: ["world", "speaker", "listener"],
    cuts.is_apart: ["world", "speaker", "listener", "thing"],
    cuts.overheard: ["world", "seat"], cuts.guard: ["world", "seat"],
    mutes.fewest_mutes: ["world", "wishes"], mutes.fewest_calm: ["world", "wishes"],
    mutes.order_for: ["world", "shut", "changes", "wishes"], mutes.first_trouble: ["world", "shut", "order", "wishes"],
    texts.world_text: ["world"], texts.world_in: ["text"], texts.leg_text: ["leg"], texts.leg_in: ["world", "text"],
    texts.way_text: ["way"], texts.gain_text: ["gain"], desk.answers: ["text"],
}

LISTS = (data.legs, ways.hearers, cuts.overheard, desk.answers)
TUPLES = (ways.reached, rings.spare_joins, cuts.guard, texts.world_in, texts.leg_in)
TUPLES_OR_NONE = (ways.way, ways.echo, rings.least_ring, loud.weights, loud.howl, loud.loud, cuts.fewest_shut,
                  cuts.apart, mutes.fewest_mutes, mutes.fewest_calm, mutes.order_for)
NUMBERS_OR_NONE = (ways.times, mutes.first_trouble)
STRINGS = (texts.world_text, texts.leg_text, texts.way_text, texts.gain_text)
TRUTHS = (data.is_world, data.follows, data.is_way, ways.is_echo, rings.has_ring, loud.is_calm, loud.is_howl,
          cuts.is_apart)


def calls_of_mutes(world):
    """Calls with no, one and several wishes, with what is shut by them and with nothing shut."""
    found = []
    table, every = data.legs(world), sorted(pairs(world))
    for wishes in {(), tuple(every[:1]), tuple(every[-2:])}:
        found.extend([(mutes.fewest_mutes, (world, wishes)), (mutes.fewest_calm, (world, wishes))])
        for shut in ((), mutes.fewest_mutes(world, wishes) or ()):
            found.append((mutes.order_for, (world, shut, tuple(table[:4]), wishes)))
            found.append((mutes.first_trouble, (world, shut, tuple(table[-1:-5:-1]), wishes)))
    return found


def calls_of_texts(world):
    text = texts.world_text(world)
    requests = ["legs", "ring", "calm"] + ["shut " + texts.leg_text(leg) for leg in data.legs(world)[:3]] + ["legs"]
    requests.extend(f"{word} {one} {other}" for word in ("times", "way", "cut") for one, other in pairs(world)[:3])
    found = [(texts.world_text, (world,)), (texts.world_in, (text,)), (texts.gain_text, ((4, 3),)),
             (texts.gain_text, ((0, 1),)), (desk.answers, (text + "\n\n" + "\n".join(requests),))]
    for leg in data.legs(world)[:4]:
        found.extend([(texts.leg_text, (leg,)), (texts.leg_in, (world, texts.leg_text(leg)))])
    for speaker, listener in pairs(world)[:4]:
        told = ways.way(world, speaker, listener)
        if told is not None:
            found.append((texts.way_text, (told,)))
    return found


def calls(world):
    """Calls of all functions with this world."""
    found = [(call, (world,)) for call in (data.is_world, data.legs, rings.has_ring, rings.least_ring, loud.weights,
                                           loud.howl)]
    found.append((rings.spare_joins, (opened(world),)))
    for thing in (loud.weights(world), loud.howl(world), None):
        found.extend([(loud.is_calm, (world, thing)), (loud.is_howl, (world, thing))])
    found.extend((call, (world, seat)) for seat in ears(world) for call in (cuts.overheard, cuts.guard))
    table = sorted(plain_legs(world))
    found.extend((data.follows, (world, leg, ahead)) for leg in table[:5] for ahead in table[-5:])
    for name, _, speaks, _ in world[2]:
        if speaks:
            found.extend([(ways.reached, (world, name)), (ways.hearers, (world, name))])
    for speaker, listener in pairs(world):
        found.extend((call, (world, speaker, listener)) for call in (ways.times, ways.way, ways.echo, loud.loud,
                                                                     cuts.fewest_shut, cuts.apart))
        for thing in (ways.way(world, speaker, listener), ways.echo(world, speaker, listener),
                      cuts.apart(world, speaker, listener), None):
            found.extend((call, (world, speaker, listener, thing)) for call in (data.is_way, ways.is_echo,
                                                                                cuts.is_apart))
    return found + calls_of_mutes(world) + calls_of_texts(world)


def all_calls():
    worlds = [EMPTY, FULL, HALL, KINDS, LOOP, ONE, ROOM, THREE, TWO, softened(FULL, 3)]
    worlds.extend(random_world(seed) for seed in range(25))
    worlds.extend(softened(random_world(seed), seed) for seed in range(15))
    return [call for world in worlds for call in calls(world)]


def spoil(value):
    """Change every list in the value."""
    if isinstance(value, list):
        value.append("spoilt")
        value.reverse()


FILES = (cuts, data, desk, errors, loud, mutes, rings, texts, ways)


class General(unittest.TestCase):
    def test_defined_where_the_interface_lists_them(self):
        for function in NAMES:
            self.assertIn(function.__module__, [file.__name__ for file in FILES], function)
            self.assertEqual(function.__code__.co_name, function.__name__)
        self.assertEqual(len(NAMES), 34)

    def test_told_the_same_whatever_was_asked_between(self):
        every = all_calls()
        first = [copy.deepcopy(function(*given)) for function, given in every]
        for function, given in reversed(every):
            spoil(function(*given))
        self.assertEqual([function(*given) for function, given in every], first)

    def test_names_of_arguments(self):
        for function, names in NAMES.items():
            told = inspect.signature(function).parameters
            self.assertEqual(list(told), names, function)
            self.assertEqual({part.kind for part in told.values()}, {inspect.Parameter.POSITIONAL_OR_KEYWORD})
            self.assertEqual({part.default for part in told.values()}, {inspect.Parameter.empty})

    def test_by_names(self):
        for function, given in all_calls():
            named = dict(reversed(list(zip(NAMES[function], given))))
            self.assertEqual(function(**named), function(*given), (function, given))

    def test_told_the_same_again(self):
        for function, given in all_calls():
            first = function(*given)
            again = function(*given)
            self.assertEqual(first, again, (function, given))
            self.assertIs(first.__class__, again.__class__)

    def test_lists_for_tuples(self):
        for function, given in all_calls():
            expected = function(*given)
            for change in (listed, mixed):
                changed = [part if name == "thing" else change(part) for name, part in zip(NAMES[function], given)]
                told = function(*changed)
                self.assertEqual(told, expected, (function, changed))
                self.assertIs(told.__class__, expected.__class__)

    def test_no_list_in_what_is_told(self):
        for function, given in all_calls():
            told = function(*[part if name == "thing" else listed(part) for name, part in zip(NAMES[function], given)])
            inner = told if isinstance(told, list) else [told]
            self.assertEqual(repr(inner).count("["), 1, (function, given))

    def test_lists_or_tuples(self):
        for function, given in all_calls():
            told = function(*given)
            if function in LISTS:
                self.assertIs(told.__class__, list)
            elif function in TUPLES:
                self.assertIs(told.__class__, tuple)
            elif function in TUPLES_OR_NONE:
                self.assertIn(told.__class__, (tuple, type(None)))
            elif function in NUMBERS_OR_NONE:
                self.assertIn(told.__class__, (int, type(None)))
            elif function in STRINGS:
                self.assertIs(told.__class__, str)
            else:
                self.assertIn(function, TRUTHS)
                self.assertIs(told.__class__, bool)

    def test_thing_is_taken_to_the_letter(self):
        for function, given in all_calls():
            if NAMES[function][-1] == "thing" and given[-1] is not None:
                self.assertIs(function(*given[:-1], listed(given[-1])), False, (function, given))
                if given[-1] != ():
                    self.assertIs(function(*given[:-1], mixed(given[-1])), False, (function, given))

    def test_arguments_stay_as_they_were(self):
        for function, given in all_calls():
            for kind in (given, [listed(part) for part in given], [mixed(part) for part in given]):
                before = copy.deepcopy(kind)
                function(*kind)
                self.assertEqual(repr(kind), repr(before), function)

    def test_what_is_told_may_be_changed(self):
        for function, given in all_calls():
            expected = copy.deepcopy(function(*given))
            spoil(function(*given))
            self.assertEqual(function(*given), expected, (function, given))

    def test_what_is_told_may_be_passed_in(self):
        for leg in data.legs(FULL):
            self.assertIn(data.follows(FULL, leg, data.legs(FULL)[0]), (True, False))
        for seat in ways.hearers(FULL, "a"):
            told = ways.way(FULL, "a", seat)
            self.assertIs(data.is_way(FULL, "a", seat, told), True)
        ring = rings.least_ring(TWO)
        self.assertIs(data.follows(TWO, ring[0], ring[-1]), True)
        calm = softened(FULL, 3)
        self.assertIs(loud.is_calm(calm, loud.weights(calm)), True)
        self.assertIs(loud.is_howl(FULL, loud.howl(FULL)), True)
        shut = mutes.fewest_mutes(TWO, ())
        self.assertEqual(mutes.order_for(TWO, shut, data.legs(TWO)[2:], ()), tuple(data.legs(TWO)[2:]))
        self.assertIsNone(mutes.first_trouble(TWO, shut, mutes.order_for(TWO, shut, data.legs(TWO)[2:], ()), ()))
        self.assertEqual(texts.world_in(texts.world_text(FULL)), FULL)
        self.assertEqual(texts.gain_text(loud.loud(TWO, "a", "b")), "4/3")


class Bounds(unittest.TestCase):
    def test_the_largest_world(self):
        bridges, joins, seats, rooms = FULL
        self.assertEqual([len(bridges), len(joins), len(seats), len(rooms)], [5, 6, 6, 2])
        self.assertEqual([len(room[1]) for room in rooms], [3, 3])
        self.assertIs(data.is_world(FULL), True)
        self.assertEqual(len(data.legs(FULL)), 16)
        self.assertEqual(ways.reached(FULL, "a"), tuple(data.legs(FULL)))
        self.assertEqual(ways.hearers(FULL, "f"), ["a", "d"])
        self.assertIsNone(ways.times(FULL, "a", "d"))
        self.assertIs(rings.has_ring(FULL), True)
        self.assertEqual(loud.is_howl(FULL, loud.howl(FULL)), True)
        self.assertIsNone(loud.weights(FULL))
        self.assertIsNone(loud.loud(FULL, "a", "d"))
        calm = softened(FULL, 3)
        self.assertEqual(len(loud.weights(calm)), 16)
        self.assertIs(loud.is_calm(calm, loud.weights(calm)), True)

    def test_beyond_the_bounds_of_what_is_shut(self):
        """16 legs, where 12 are the bound."""
        told = cuts.apart(FULL, "d", "a")
        self.assertIs(cuts.is_apart(FULL, "d", "a", told), True)
        self.assertEqual(len(cuts.fewest_shut(FULL, "d", "a")), len(told))
        self.assertEqual(cuts.overheard(FULL, "a"), ["d"])
        self.assertEqual(cuts.guard(FULL, "a"), (("a", "b"), ("a", "c")))

    def test_a_large_room(self):
        names = tuple("abcdefghijkl")
        seats = tuple((name, "p", True, True) for name in names)
        world = (("p",), (), seats, (("r", names, (1, 1)),))
        self.assertEqual(len(data.legs(world)), 132)
        self.assertIsNone(ways.times(world, "a", "b"))
        self.assertEqual(ways.way(world, "a", "b"), ("a", ()))
        self.assertEqual(ways.hearers(world, "a"), list(names))
        self.assertEqual(rings.least_ring(world), (("a", "b"),))
        self.assertEqual(loud.howl(world), ((), ("a", "b")))
        self.assertIsNone(cuts.fewest_shut(world, "a", "b"))
        self.assertEqual(cuts.overheard(world, "a"), list(names[1:]))

    def test_mutes_within_the_bounds(self):
        """12 legs, 4 wishes and 6 changes."""
        bridges, joins, seats, _ = FULL
        world = (bridges, joins, tuple((name, bridge, True, True) for name, bridge, _, _ in seats), ())
        wishes = (("a", "d"), ("b", "f"), ("d", "a"), ("f", "c"))
        self.assertEqual(len(data.legs(world)), 12)
        shut = mutes.fewest_mutes(world, wishes)
        self.assertEqual(shut, plain_fewest_mutes(world, wishes))
        self.assertEqual(mutes.fewest_calm(world, wishes), plain_fewest_calm(world, wishes))
        changes = tuple(sorted(shut[:3] + tuple(leg for leg in data.legs(world) if leg not in shut)[:3]))
        for asked in (wishes, wishes[:1], ()):
            told = mutes.order_for(world, shut, changes, asked)
            self.assertEqual(told, plain_order_for(world, shut, changes, asked))

    def test_mutes_beyond_the_bounds(self):
        """16 legs, 12 wishes and 16 changes."""
        every, wishes = tuple(data.legs(FULL)), tuple(sorted(pairs(FULL)))
        shut = mutes.fewest_mutes(FULL, wishes)
        self.assertEqual((len(every), len(wishes)), (16, 12))
        self.assertEqual(shut, plain_fewest_mutes(FULL, wishes))
        self.assertEqual(mutes.fewest_calm(FULL, wishes), plain_fewest_calm(FULL, wishes))
        self.assertEqual(mutes.first_trouble(FULL, (), every, wishes), 0)
        self.assertEqual(mutes.first_trouble(FULL, every, every, ()), plain_troubles(FULL, every, every, ())[0])
        told = mutes.order_for(FULL, shut, every, ())
        self.assertEqual([] if told is None else plain_troubles(FULL, shut, told, ()), [])

    def test_gains_above_the_bound(self):
        world = (("p",), (), ROOM[2], (("r", ("a", "b"), (10 ** 40, 10 ** 40 + 1)),))
        self.assertEqual(loud.weights(world), ((("a", "b"), (10 ** 40 + 1, 1)),))
        self.assertEqual(loud.loud(world, "c", "a"), (10 ** 40 + 1, 1))


if __name__ == "__main__":
    unittest.main()
