"""The whole program: the same world with other names, and two worlds put into one."""

import random
import string
import unittest

from minusone import cuts, data, desk, loud, mutes, rings, texts, ways
from test_general import NAMES, calls
from worlds import (EMPTY, FULL, HALL, KINDS, LOOP, ONE, ROOM, THREE, TWO, ears, mixed, opened, pairs, random_world,
                    softened)

WORLDS = [EMPTY, FULL, HALL, KINDS, LOOP, ONE, ROOM, THREE, TWO] + [random_world(seed) for seed in range(25)]
WORLDS.extend(softened(random_world(seed), seed) for seed in range(15))

# Words that stand in requests, answers and legs; they may be names as well.
WORDS = ("legs", "ring", "calm", "times", "way", "loud", "hearers", "cut", "shut", "open", "done", "endless", "never",
         "refused", "yes", "no", "there", "back")


def names_of(world):
    """All names of the world, ascending; one name may stand for several things."""
    found = set(world[0])
    for rows in world[1:]:
        found.update(row[0] for row in rows)
    return sorted(found)


def other_names(world, seed, words=WORDS):
    """For each name another one, in the same order."""
    dice = random.Random(seed)
    old = names_of(world)
    new = set(dice.sample(words, min(len(words), len(old) // 2)))
    while len(new) < len(old):
        new.add("".join(dice.choices(string.ascii_lowercase, k=dice.randint(1, 8))))
    return dict(zip(old, sorted(new)))


def renamed_world(world, names):
    bridges, joins, seats, rooms = world
    return (tuple(names[bridge] for bridge in bridges),
            tuple((names[name], names[one], names[other], there, back) for name, one, other, there, back in joins),
            tuple((names[name], names[bridge], speaks, hears) for name, bridge, speaks, hears in seats),
            tuple((names[name], tuple(names[member] for member in members), air) for name, members, air in rooms))


def renamed(value, names, joins):
    """The value with the other names; there and back stay behind the name of a join."""
    if isinstance(value, str):
        return names[value]
    if isinstance(value, (list, tuple)):
        if len(value) == 2 and isinstance(value[0], str) and value[0] in joins:
            return (names[value[0]], value[1])
        return value.__class__(renamed(part, names, joins) for part in value)
    return value


class OtherNames(unittest.TestCase):
    def test_names_in_the_same_order(self):
        for seed, world in enumerate(WORLDS):
            self.assertIs(data.is_world(renamed_world(world, other_names(world, seed))), True)

    def test_all_functions_of_a_world(self):
        found = set()
        for seed, world in enumerate(WORLDS):
            names, joins = other_names(world, seed), [join[0] for join in world[1]]
            for function, given in calls(world):
                if NAMES[function][0] != "world" or function in (texts.leg_in, texts.world_text):
                    continue
                now = [renamed_world(given[0], names)] + [renamed(part, names, joins) for part in given[1:]]
                # What spare_joins tells are joins, where elsewhere a join in a pair begins a leg.
                inner = [] if function is rings.spare_joins else joins
                told, wanted = function(*now), renamed(function(*given), names, inner)
                if function in (ways.echo, cuts.apart):
                    # Which one is told may differ; whether there is one does not.
                    self.assertIs(told is None, wanted is None)
                    check = ways.is_echo if function is ways.echo else cuts.is_apart
                    for thing in (told, wanted):
                        self.assertIs(check(*now, thing), thing is not None)
                else:
                    self.assertEqual(told, wanted, (function, given, names))
                    self.assertIs(told.__class__, wanted.__class__)
                found.add(function)
        self.assertEqual(len(found), len(NAMES) - 8)

    def test_is_world(self):
        for seed, world in enumerate(WORLDS):
            names = other_names(world, seed)
            spoilt = [world[:1] + (world[1][::-1],) + world[2:], world[:2] + (world[2][::-1],) + world[3:],
                      (world[0][1:],) + world[1:], world[:3] + (world[3] * 2,), world[:3], world + ((),)]
            for thing in spoilt:
                if len(thing) == 4:
                    self.assertIs(data.is_world(renamed_world(thing, names)), data.is_world(thing), thing)

    def test_texts(self):
        for seed, world in enumerate(WORLDS):
            names, joins = other_names(world, seed), [join[0] for join in world[1]]
            other = renamed_world(world, names)
            old, new = texts.world_text(world).split("\n"), texts.world_text(other).split("\n")
            for one, two in zip(old, new, strict=True):
                changed = [names.get(part, part) for part in one.replace("+", " + ").split(" ")]
                self.assertEqual(two, " ".join(changed).replace(" + ", "+"))
            self.assertEqual(texts.world_in("\n".join(new)), other)
            for leg in data.legs(world):
                self.assertEqual(texts.leg_in(other, texts.leg_text(renamed(leg, names, joins))), renamed(leg, names, joins))

    def requests(self, world, dice):
        """Words and what stands behind them: a leg, or names."""
        table, seats, every = data.legs(world), [seat[0] for seat in world[2]], pairs(world)
        found = [("legs", ()), ("ring", ()), ("calm", ())]
        for _ in range(25):
            if table:
                found.append((dice.choice(["shut", "open"]), dice.choice(table)))
            if seats:
                found.append((dice.choice(["hearers", "overheard"]), (dice.choice(seats),)))
                found.append((dice.choice(["times", "cut"]), (dice.choice(seats), dice.choice(seats))))
            if every:
                found.append((dice.choice(["times", "way", "loud", "cut"]), dice.choice(every)))
            found.append((dice.choice(["ring", "calm", "legs"]), ()))
        return found

    def text(self, world, requests):
        lines = [word + " " + ".".join(rest) if word in ("shut", "open") else " ".join([word, *rest])
                 for word, rest in requests]
        return "\n".join([texts.world_text(world), ""] + lines)

    def renamed_answer(self, answer, names, joins):
        """The answer with the other names, of a world none of whose names is a word of an answer."""
        parts = []
        for word in answer.replace(">", " > ").split(" "):
            leg = word.split(".")
            parts.append(".".join(renamed(tuple(leg), names, joins)) if len(leg) == 2 else names.get(word, word))
        return " ".join(parts).replace(" > ", ">")

    def test_answers(self):
        for seed, world in enumerate(WORLDS):
            plain = other_names(world, seed, ())
            world = renamed_world(world, plain)
            self.assertEqual(set(names_of(world)) & set(WORDS), set())
            names, joins = other_names(world, seed), [join[0] for join in world[1]]
            requests = self.requests(world, random.Random(seed))
            other = [(word, renamed(rest, names, joins)) for word, rest in requests]
            told = desk.answers(self.text(renamed_world(world, names), other))
            wanted = desk.answers(self.text(world, requests))
            self.assertEqual(told, [self.renamed_answer(answer, names, joins) for answer in wanted])


def merged(one, other):
    return tuple(tuple(sorted(rows + more)) for rows, more in zip(one, other))


def two_worlds(seed):
    """Two worlds without a name in common, and both in one; the names of both lie mixed."""
    dice = random.Random(seed)
    found = []
    for number in (seed, seed + 5000):
        world = random_world(number)
        while len(data.legs(world)) > 7 or len(data.legs(world)) < seed % 3:
            number += 10000
            world = random_world(number)
        found.append(softened(world, number) if dice.random() < 0.5 else world)
    used, tables = set(), []
    for world in found:
        new = set()
        while len(new) < len(names_of(world)):
            name = "".join(dice.choices(string.ascii_lowercase, k=dice.randint(1, 3)))
            if name not in used:
                new.add(name)
                used.add(name)
        tables.append(dict(zip(names_of(world), sorted(new))))
    one, other = (renamed_world(world, names) for world, names in zip(found, tables))
    return one, other, merged(one, other)


def some_wishes(world, dice):
    every = pairs(world)
    return tuple(sorted(dice.sample(every, min(len(every), dice.randint(0, 2)))))


def woven(one, other):
    """Both orders in one: the lesser of what comes next in each of them."""
    found, rest = [], [list(one), list(other)]
    while rest[0] or rest[1]:
        least = min(row for row in rest if row)
        found.append(least.pop(0))
    return tuple(found)


class TwoInOne(unittest.TestCase):
    def worlds(self):
        return [two_worlds(seed) for seed in range(80)]

    def test_legs(self):
        for one, other, both in self.worlds():
            self.assertIs(data.is_world(both), True)
            self.assertEqual(data.legs(both), sorted(data.legs(one) + data.legs(other)))
            for part in (one, other):
                for leg in data.legs(part):
                    for ahead in data.legs(both):
                        wanted = ahead in data.legs(part) and data.follows(part, leg, ahead)
                        self.assertIs(data.follows(both, leg, ahead), wanted)

    def test_within_one_part(self):
        for one, other, both in self.worlds():
            for part in (one, other):
                for speaker, listener in pairs(part):
                    for call in (ways.times, ways.way, loud.loud, cuts.fewest_shut):
                        self.assertEqual(call(both, speaker, listener), call(part, speaker, listener), call)
                    for check, call in ((ways.is_echo, ways.echo), (cuts.is_apart, cuts.apart)):
                        thing = call(part, speaker, listener)
                        self.assertIs(check(both, speaker, listener, thing), thing is not None)
                        self.assertIs(call(both, speaker, listener) is None, thing is None)
                    told = ways.way(part, speaker, listener)
                    self.assertIs(data.is_way(both, speaker, listener, told), told is not None)
                for name, _, speaks, _ in part[2]:
                    if speaks:
                        self.assertEqual(ways.reached(both, name), ways.reached(part, name))
                        self.assertEqual(ways.hearers(both, name), ways.hearers(part, name))
                for name in ears(part):
                    self.assertEqual(cuts.overheard(both, name), cuts.overheard(part, name))
                    self.assertEqual(cuts.guard(both, name), cuts.guard(part, name))

    def test_from_one_part_to_the_other(self):
        for one, other, both in self.worlds():
            for speaker in [seat[0] for seat in one[2] if seat[2]]:
                for listener in ears(other):
                    told = [call(both, speaker, listener) for call in (
                        ways.times, ways.way, ways.echo, loud.loud, cuts.fewest_shut, cuts.apart)]
                    self.assertEqual(told, [0, None, None, (0, 1), (), ()])
                    self.assertIsNone(mutes.fewest_mutes(both, ((speaker, listener),)))
                    self.assertIsNone(mutes.fewest_calm(both, ((speaker, listener),)))

    def test_rings(self):
        for one, other, both in self.worlds():
            found = [ring for ring in (rings.least_ring(one), rings.least_ring(other)) if ring]
            self.assertEqual(rings.least_ring(both), min(found, key=lambda ring: (len(ring), ring), default=None))
            self.assertIs(rings.has_ring(both), bool(found))
            spare = rings.spare_joins(opened(one)) + rings.spare_joins(opened(other))
            self.assertEqual(rings.spare_joins(opened(both)), tuple(sorted(spare)))

    def test_weights_and_howls(self):
        for one, other, both in self.worlds():
            parts = [loud.weights(one), loud.weights(other)]
            wanted = None if None in parts else tuple(sorted(parts[0] + parts[1]))
            self.assertEqual(loud.weights(both), wanted)
            self.assertIs(loud.is_calm(both, wanted), wanted is not None)
            howls = [told for told in (loud.howl(one), loud.howl(other)) if told]
            first = min([leg for _, leg in howls], default=None)
            wanted = (tuple(leg for leg in data.legs(both) if leg < first), first) if howls else None
            self.assertEqual(loud.howl(both), wanted)
            for thing in howls + [wanted]:
                self.assertIs(loud.is_howl(both, thing), thing is not None)

    def test_mutes(self):
        found = set()
        for seed, (one, other, both) in enumerate(self.worlds()):
            dice = random.Random(seed)
            wishes = [some_wishes(one, dice), some_wishes(other, dice)]
            for call in (mutes.fewest_mutes, mutes.fewest_calm):
                parts = [call(one, wishes[0]), call(other, wishes[1])]
                wanted = None if None in parts else tuple(sorted(parts[0] + parts[1]))
                self.assertEqual(call(both, tuple(sorted(wishes[0] + wishes[1]))), wanted)
                found.add(wanted is None)
        self.assertEqual(len(found), 2)

    def test_orders(self):
        found = set()
        for seed, (one, other, both) in enumerate(self.worlds()):
            dice = random.Random(seed)
            wishes = [some_wishes(one, dice), some_wishes(other, dice)]
            shut = [mutes.fewest_mutes(part, asked) or () for part, asked in zip((one, other), wishes)]
            tables = [data.legs(one), data.legs(other)]
            changes = [tuple(sorted(dice.sample(table, min(3, len(table))))) for table in tables]
            orders = [mutes.order_for(*given) for given in zip((one, other), shut, changes, wishes)]
            given = [tuple(sorted(rows[0] + rows[1])) for rows in (shut, changes, wishes)]
            wanted = None if None in orders else woven(*orders)
            self.assertEqual(mutes.order_for(both, *given), wanted)
            found.add((wanted is None, wanted == given[1]))
            # One part after the other: the troubles of the second part come behind all changes of the first one.
            troubles = [mutes.first_trouble(*row) for row in zip((one, other), shut, changes, wishes)]
            told = mutes.first_trouble(both, given[0], changes[0] + changes[1], given[2])
            later = None if troubles[1] is None else troubles[1] + len(changes[0]) * (troubles[1] > 0)
            self.assertEqual(told, min([many for many in (troubles[0], later) if many is not None], default=None))
        self.assertEqual(len(found), 3)

    def test_texts_and_answers(self):
        for one, other, both in self.worlds():
            self.assertEqual(texts.world_in(texts.world_text(both)), both)
            lines = texts.world_text(one).split("\n")[1:] + texts.world_text(other).split("\n")[1:]
            self.assertEqual(sorted(texts.world_text(both).split("\n")[1:]), sorted(lines))
            asked = []
            for part in (one, other):
                requests = ["shut " + texts.leg_text(leg) for leg in data.legs(part)[::2]]
                requests.extend(f"{word} {speaker} {listener}" for word in ("times", "way", "loud", "cut")
                                for speaker, listener in pairs(part))
                requests.extend(f"overheard {name}" for name in ears(part))
                asked.append((part, requests))
            told = desk.answers("\n".join([texts.world_text(both), "", *asked[0][1], *asked[1][1]]))
            wanted = [desk.answers("\n".join([texts.world_text(part), "", *requests])) for part, requests in asked]
            self.assertEqual(told, wanted[0] + wanted[1])

    def test_lists_for_tuples(self):
        for _, _, both in self.worlds()[:20]:
            self.assertEqual(data.legs(mixed(both)), data.legs(both))
            self.assertEqual(mutes.fewest_mutes(mixed(both), []), mutes.fewest_mutes(both, ()))


if __name__ == "__main__":
    unittest.main()
