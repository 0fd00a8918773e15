"""The general rules and the bounds: [2] and [3]; the arguments of the interface: [12]."""

import copy
import inspect
import unittest

from minusone import data, ways
from worlds import EMPTY, FULL, HALL, KINDS, LOOP, ONE, ROOM, TWO, listed, mixed, pairs, plain_legs, random_world

NAMES = {
    data.is_world: ["thing"], data.legs: ["world"], data.follows: ["world", "leg", "ahead"],
    data.is_way: ["world", "speaker", "listener", "thing"],
    ways.times: ["world", "speaker", "listener"], ways.way: ["world", "speaker", "listener"],
    ways.reached: ["world", "speaker"], ways.hearers: ["world", "speaker"],
    ways.echo: ["world", "speaker", "listener"], ways.is_echo: ["world", "speaker", "listener", "thing"],
}


def calls(world):
    """Calls of all functions with this world."""
    found = [(data.is_world, (world,)), (data.legs, (world,))]
    table = sorted(plain_legs(world))
    found.extend((data.follows, (world, leg, ahead)) for leg in table[:5] for ahead in table[-5:])
    for name, _, speaks, _ in world[2]:
        if speaks:
            found.extend([(ways.reached, (world, name)), (ways.hearers, (world, name))])
    for speaker, listener in pairs(world):
        found.extend((call, (world, speaker, listener)) for call in (ways.times, ways.way, ways.echo))
        for thing in (ways.way(world, speaker, listener), ways.echo(world, speaker, listener), None):
            found.extend((call, (world, speaker, listener, thing)) for call in (data.is_way, ways.is_echo))
    return found


def all_calls():
    worlds = [EMPTY, FULL, HALL, KINDS, LOOP, ONE, ROOM, TWO] + [random_world(seed) for seed in range(40)]
    return [call for world in worlds for call in calls(world)]


def spoil(value):
    """Change every list in the value."""
    if isinstance(value, list):
        value.append("spoilt")
        value.reverse()


class General(unittest.TestCase):
    def test_names_of_arguments(self):
        for function, names in NAMES.items():
            told = inspect.signature(function).parameters
            self.assertEqual(list(told), names, function)
            self.assertEqual({part.kind for part in told.values()}, {inspect.Parameter.POSITIONAL_OR_KEYWORD})
            self.assertEqual({part.default for part in told.values()}, {inspect.Parameter.empty})

    def test_by_names(self):
        for function, given in all_calls():
            named = dict(reversed(list(zip(NAMES[function], given))))
            self.assertEqual(function(**named), function(*given), (function, given))

    def test_told_the_same_again(self):
        for function, given in all_calls():
            first = function(*given)
            again = function(*given)
            self.assertEqual(first, again, (function, given))
            self.assertIs(first.__class__, again.__class__)

    def test_lists_for_tuples(self):
        for function, given in all_calls():
            expected = function(*given)
            for change in (listed, mixed):
                changed = [part if name == "thing" else change(part) for name, part in zip(NAMES[function], given)]
                told = function(*changed)
                self.assertEqual(told, expected, (function, changed))
                self.assertIs(told.__class__, expected.__class__)

    def test_no_list_in_what_is_told(self):
        for function, given in all_calls():
            told = function(*[part if name == "thing" else listed(part) for name, part in zip(NAMES[function], given)])
            inner = told if isinstance(told, list) else [told]
            self.assertEqual(repr(inner).count("["), 1, (function, given))

    def test_lists_or_tuples(self):
        for function, given in all_calls():
            told = function(*given)
            if function in (data.legs, ways.hearers):
                self.assertIs(told.__class__, list)
            elif function is ways.reached:
                self.assertIs(told.__class__, tuple)
            elif function is ways.times:
                self.assertIn(told.__class__, (int, type(None)))
            elif function in (ways.way, ways.echo):
                self.assertIn(told.__class__, (tuple, type(None)))
            else:
                self.assertIs(told.__class__, bool)

    def test_thing_is_taken_to_the_letter(self):
        for function, given in all_calls():
            if NAMES[function][-1] == "thing" and given[-1] is not None:
                self.assertIs(function(*given[:-1], listed(given[-1])), False, (function, given))
                self.assertIs(function(*given[:-1], mixed(given[-1])), False, (function, given))

    def test_arguments_stay_as_they_were(self):
        for function, given in all_calls():
            for kind in (given, [listed(part) for part in given], [mixed(part) for part in given]):
                before = copy.deepcopy(kind)
                function(*kind)
                self.assertEqual(repr(kind), repr(before), function)

    def test_what_is_told_may_be_changed(self):
        for function, given in all_calls():
            expected = copy.deepcopy(function(*given))
            spoil(function(*given))
            self.assertEqual(function(*given), expected, (function, given))

    def test_what_is_told_may_be_passed_in(self):
        for leg in data.legs(FULL):
            self.assertIn(data.follows(FULL, leg, data.legs(FULL)[0]), (True, False))
        for seat in ways.hearers(FULL, "a"):
            told = ways.way(FULL, "a", seat)
            self.assertIs(data.is_way(FULL, "a", seat, told), True)


class Bounds(unittest.TestCase):
    def test_the_largest_world(self):
        bridges, joins, seats, rooms = FULL
        self.assertEqual([len(bridges), len(joins), len(seats), len(rooms)], [5, 6, 6, 2])
        self.assertEqual([len(room[1]) for room in rooms], [3, 3])
        self.assertIs(data.is_world(FULL), True)
        self.assertEqual(len(data.legs(FULL)), 16)
        self.assertEqual(ways.reached(FULL, "a"), tuple(data.legs(FULL)))
        self.assertEqual(ways.hearers(FULL, "f"), ["a", "d"])
        self.assertIsNone(ways.times(FULL, "a", "d"))

    def test_a_large_room(self):
        names = tuple("abcdefghijkl")
        seats = tuple((name, "p", True, True) for name in names)
        world = (("p",), (), seats, (("r", names, (1, 1)),))
        self.assertEqual(len(data.legs(world)), 132)
        self.assertIsNone(ways.times(world, "a", "b"))
        self.assertEqual(ways.way(world, "a", "b"), ("a", ()))
        self.assertEqual(ways.hearers(world, "a"), list(names))


if __name__ == "__main__":
    unittest.main()
