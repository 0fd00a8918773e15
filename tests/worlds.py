"""Worlds for the tests, and a slow, plain reading of the document to compare with."""

import random
from fractions import Fraction
from itertools import combinations, permutations

HALF = (1, 2)

ONE = (("p", "q"), (("j", "p", "q", HALF, HALF),), (("a", "p", True, True), ("b", "q", True, True)), ())
TWO = (("p", "q"), (("j", "p", "q", HALF, HALF), ("k", "p", "q", HALF, HALF)), ONE[2], ())
THREE = (("p", "q"), TWO[1] + (("l", "p", "q", HALF, HALF),), (("a", "p", True, True),), ())
ROOM = (("p",), (), (("a", "p", True, True), ("b", "p", True, False), ("c", "p", True, True)),
        (("r", ("a", "b"), HALF),))
EMPTY = ((), (), (), ())

# One seat of each kind: e hears, m does neither, s speaks, t does both.
KINDS = (("p",), (), (("e", "p", False, True), ("m", "p", False, False), ("s", "p", True, False),
                      ("t", "p", True, True)), (("r", ("e", "m", "s", "t"), (3, 2)),))

# A room over two bridges: what comes to a at p goes out by b at q, never back.
HALL = (("p", "q"), (), (("a", "p", True, True), ("b", "q", True, False), ("c", "q", False, True),
                         ("d", "p", True, False)), (("r", ("a", "b"), HALF),))

# Two seats of one room at two bridges, and a join between these bridges.
LOOP = (("p", "q"), (("j", "p", "q", HALF, None),),
        (("a", "p", True, True), ("b", "q", True, True), ("d", "p", True, True)), (("r", ("a", "b"), HALF),))

# As large as the bounds allow: 5 bridges, 6 joins, 6 seats, 2 rooms of 3, 16 legs.
FULL = (("p", "q", "r", "s", "t"),
        (("ja", "p", "q", (9, 9), (1, 9)), ("jb", "p", "r", (9, 1), (1, 1)), ("jc", "q", "s", HALF, HALF),
         ("jd", "r", "s", HALF, HALF), ("je", "s", "t", HALF, HALF), ("jf", "t", "p", HALF, HALF)),
        (("a", "p", True, True), ("b", "q", True, False), ("c", "r", True, False),
         ("d", "s", True, True), ("e", "s", True, False), ("f", "t", True, False)),
        (("m", ("a", "b", "c"), (9, 9)), ("n", ("d", "e", "f"), (1, 9))))


def ladder(rungs):
    """Bridges in a row, each with two ways to the next one and none back: 2 ** rungs ways."""
    bridges = tuple("bcdefghijklmnopqrstuvwxyz"[:rungs + 1])
    joins = []
    for low, high in zip(bridges, bridges[1:]):
        joins.append(("j" + low + "x", low, high, HALF, None))
        joins.append(("j" + low + "y", high, low, None, HALF))
    seats = (("a", bridges[0], True, False), ("z", bridges[-1], False, True))
    return (bridges, tuple(joins), seats, ())


def listed(value):
    """The value with a list for each tuple in it."""
    if isinstance(value, (list, tuple)):
        return [listed(part) for part in value]
    return value


def mixed(value, depth=0):
    """The value with lists on every other level."""
    if isinstance(value, (list, tuple)):
        parts = [mixed(part, depth + 1) for part in value]
        return parts if depth % 2 else tuple(parts)
    return value


NAMES = ("a", "aa", "ab", "b", "back", "c", "d", "longname", "m", "there", "u", "x", "y", "z", "zz")


def random_gain(dice):
    return (dice.randint(1, 9), dice.randint(1, 9))


def random_rooms(dice, seats):
    names = [seat[0] for seat in seats]
    dice.shuffle(names)
    rooms = []
    for name in ("a", "r")[:dice.randint(0, 2)]:
        members, names = names[:dice.randint(2, 3)], names[3:]
        if len(members) >= 2:
            rooms.append((name, tuple(sorted(members)), random_gain(dice)))
    return tuple(rooms)


def random_join(dice, name, bridges, downhill):
    """A join; downhill, open only from the lower bridge to the higher one."""
    one, other = dice.sample(bridges, 2)
    open_ways = [one < other, other < one] if downhill else [dice.random() < 0.6, dice.random() < 0.6]
    gains = [random_gain(dice) if is_open else None for is_open in open_ways]
    return (name, one, other, gains[0], gains[1])


def random_world(seed):
    """A world within the bounds, the same for the same seed."""
    dice = random.Random(seed)
    while True:
        downhill = dice.random() < 0.4
        bridges = tuple(sorted(dice.sample(NAMES, dice.randint(1, 5))))
        names = dice.sample(NAMES, 12)
        many = 0 if len(bridges) < 2 else 6 if downhill else dice.randint(0, 6)
        joins = tuple(random_join(dice, name, bridges, downhill) for name in sorted(names[:6])[:many])
        seats = tuple((name, dice.choice(bridges), dice.random() < 0.7, dice.random() < 0.7)
                      for name in sorted(names[6:])[:dice.randint(0, 6)])
        world = (bridges, joins, seats, random_rooms(dice, seats))
        if len(plain_legs(world)) <= 16:
            return world


def plain_seat(world, name):
    for seat in world[2]:
        if seat[0] == name:
            return seat
    raise AssertionError(name)


class Less(tuple):
    """A world of which some legs are shut, also such as go through the air; for the plain reading alone."""

    shut = ()


def less(world, shut):
    found = Less(world)
    found.shut = tuple(shut)
    return found


def plain_legs(world):
    """For each leg the bridge and the line that it leaves, then those that it comes to."""
    found = {}
    for name, one, other, there, back in world[1]:
        if there:
            found[name, "there"] = (one, name, other, name)
        if back:
            found[name, "back"] = (other, name, one, name)
    for _, members, _ in world[3]:
        seats = [plain_seat(world, name) for name in members]
        for ear in seats:
            for mouth in seats:
                if ear is not mouth and ear[3] and mouth[2]:
                    found[ear[0], mouth[0]] = (ear[1], ear[0], mouth[1], mouth[0])
    for leg in getattr(world, "shut", ()):
        del found[leg]
    return found


def plain_starts(world, speaker):
    found = {speaker}
    for _, members, _ in world[3]:
        if speaker in members:
            found.update(name for name in members if plain_seat(world, name)[2])
    return sorted(found)


def plain_follows(world, leg, ahead):
    leaves, line = plain_legs(world)[leg][:2]
    comes, by = plain_legs(world)[ahead][2:]
    return leaves == comes and line != by


def plain_is_way(world, speaker, listener, start, row):
    """The words of the document, one after the other."""
    table = plain_legs(world)
    bridge = plain_seat(world, listener)[1]
    if start not in plain_starts(world, speaker) or any(leg not in table for leg in row):
        return False
    if not row:
        return plain_seat(world, start)[1] == bridge and start != listener
    first, last = table[row[0]], table[row[-1]]
    if first[0] != plain_seat(world, start)[1] or first[1] == start:
        return False
    if any(not plain_follows(world, leg, ahead) for ahead, leg in zip(row, row[1:])):
        return False
    return last[2] == bridge and last[3] != listener


def plain_numbers(world, speaker, listener, most):
    """How many ways there are of 0, 1, .. most legs."""
    table = plain_legs(world)
    starts = plain_starts(world, speaker)
    numbers = [sum(plain_is_way(world, speaker, listener, start, ()) for start in starts)]
    bridge = plain_seat(world, listener)[1]
    rows = {leg: sum(table[leg][0] == plain_seat(world, start)[1] and table[leg][1] != start for start in starts)
            for leg in table}
    after = {leg: [late for late in table if plain_follows(world, late, leg)] for leg in table}
    for _ in range(most):
        numbers.append(sum(rows[leg] for leg in table if table[leg][2] == bridge and table[leg][3] != listener))
        longer = dict.fromkeys(table, 0)
        for leg in table:
            for late in after[leg]:
                longer[late] += rows[leg]
        rows = longer
    return numbers


def plain_times(world, speaker, listener):
    """A way longer than all legs goes over one of them twice, so there are endless ones;
    if there are any of that kind, there is one of at most twice as many legs."""
    size = len(plain_legs(world))
    numbers = plain_numbers(world, speaker, listener, 2 * size)
    return None if any(numbers[size + 1:]) else sum(numbers)


def plain_way(world, speaker, listener):
    numbers = plain_numbers(world, speaker, listener, len(plain_legs(world)))
    if not any(numbers):
        return None
    size = [at for at, number in enumerate(numbers) if number][0]
    table = plain_legs(world)
    rows = [(start, ()) for start in plain_starts(world, speaker)]
    for at in range(size):
        rows = [(start, row + (leg,)) for start, row in rows for leg in table
                if (plain_follows(world, leg, row[-1]) if at else
                    table[leg][0] == plain_seat(world, start)[1] and table[leg][1] != start)]
    return min(way for way in rows if plain_is_way(world, speaker, listener, way[0], way[1]))


def plain_reached(world, speaker):
    table = plain_legs(world)
    found = {leg for leg in table for start in plain_starts(world, speaker)
             if table[leg][0] == plain_seat(world, start)[1] and table[leg][1] != start}
    for _ in table:
        found |= {leg for leg in table for ahead in found if plain_follows(world, leg, ahead)}
    return tuple(sorted(found))


def pairs(world):
    """All pairs of a seat that speaks and a seat that hears."""
    return [(one[0], other[0]) for one in world[2] for other in world[2] if one[2] and other[3]]


def softened(world, seed):
    """The world with gains so small that most of it is calm."""
    dice = random.Random(seed)
    low = dice.randint(2, 6)

    def soft(gain):
        return None if gain is None else (dice.randint(1, 2), dice.randint(low, 9))

    joins = tuple((name, one, other, soft(there), soft(back)) for name, one, other, there, back in world[1])
    return (world[0], joins, world[2], tuple((name, members, soft(air)) for name, members, air in world[3]))


def opened(world):
    """The world without rooms, and with all joins open both ways."""
    joins = tuple((name, one, other, there or HALF, back or HALF) for name, one, other, there, back in world[1])
    return (world[0], joins, world[2], ())


def shared_line(gain, many):
    """Two bridges with so many joins, all ways with this gain."""
    joins = tuple((name, "p", "q", gain, gain) for name in "jklmno"[:many])
    return (("p", "q"), joins, ONE[2], ())


def plain_after(world, shut=()):
    """For each leg that is not shut those that follow it."""
    table = [leg for leg in sorted(plain_legs(world)) if leg not in shut]
    return {leg: [late for late in table if plain_follows(world, late, leg)] for leg in table}


def plain_least_ring(world):
    """All rows of different legs, the short ones first, that begin with the least one and come back to it."""
    after = plain_after(world)
    rows = [(leg,) for leg in after]
    while rows:
        rings = [row for row in rows if row[0] in after[row[-1]]]
        if rings:
            return min(rings)
        rows = [row + (late,) for row in rows for late in after[row[-1]] if late not in row and late > row[0]]
    return None


def plain_parts(world):
    """For each bridge those that hang together with it."""
    near = {bridge: {bridge} for bridge in world[0]}
    for _ in world[0]:
        for _, one, other, _, _ in world[1]:
            near[one] = near[other] = near[one] | near[other]
    return near


def plain_spare_joins(world):
    names = [join[0] for join in world[1]]
    for many in range(len(names) + 1):
        for spare in combinations(names, many):
            left = (world[0], tuple(join for join in world[1] if join[0] not in spare), world[2], world[3])
            if plain_parts(left) == plain_parts(world) and plain_least_ring(left) is None:
                return spare
    raise AssertionError(world)


def plain_gains(world):
    gains = {}
    for name, _, _, there, back in world[1]:
        gains[name, "there"], gains[name, "back"] = there, back
    for _, members, air in world[3]:
        gains.update({(one, other): air for one in members for other in members})
    return {leg: Fraction(*gains[leg]) for leg in plain_legs(world)}


def plain_sums(world, legs, alone):
    """The sums that solve sum = alone + the sums of the legs that follow, each by its gain; None if none do."""
    after, gains = plain_after(world), plain_gains(world)
    rows = [[Fraction(leg == late) - (gains[late] if late in after[leg] else 0) for late in legs] + [Fraction(alone(leg))]
            for leg in legs]
    for at in range(len(legs)):
        swap = [row for row in range(at, len(legs)) if rows[row][at]]
        if not swap:
            return None
        rows[at], rows[swap[0]] = rows[swap[0]], rows[at]
        rows[at] = [part / rows[at][at] for part in rows[at]]
        for other in range(len(legs)):
            if other != at:
                rows[other] = [part - rows[other][at] * best for part, best in zip(rows[other], rows[at])]
    return {leg: row[-1] for leg, row in zip(legs, rows)}


def plain_calm(world, legs):
    """There are weights by which each leg is 1 above what follows it, and none of them below 0."""
    sums = plain_sums(world, legs, lambda leg: 1)
    return sums is not None and all(sums[leg] > 0 for leg in legs)


def plain_first(world, speaker, shut=()):
    """The legs that leave the bridge of a start, not by its line."""
    table = plain_legs(world)
    return {leg for leg in table for start in plain_starts(world, speaker)
            if leg not in shut and table[leg][0] == plain_seat(world, start)[1] and table[leg][1] != start}


def plain_behind(world, found, shut=()):
    """These legs and all that follow them, and so on."""
    after = plain_after(world, shut)
    for _ in after:
        found = found | {late for leg in found for late in after[leg]}
    return found


def plain_heard(world, seat, legs):
    """Whether the seat hears what comes by one of the legs."""
    table = plain_legs(world)
    return any(table[leg][2] == plain_seat(world, seat)[1] and table[leg][3] != seat for leg in legs)


def plain_near(world, speaker, listener):
    """The starts that the listener hears without any leg."""
    return [start for start in plain_starts(world, speaker) if plain_is_way(world, speaker, listener, start, ())]


def plain_loud(world, speaker, listener):
    reach = plain_behind(world, plain_first(world, speaker))
    live = [leg for leg in sorted(reach) if plain_heard(world, listener, plain_behind(world, {leg}))]
    if not plain_calm(world, live):
        return None
    gains = plain_gains(world)
    sums = plain_sums(world, live, lambda leg: plain_heard(world, listener, [leg]))
    airs = [Fraction(*air) for _, members, air in world[3] if speaker in members]
    total = Fraction(0)
    for start in plain_starts(world, speaker):
        bridge = plain_seat(world, start)[1]
        table = plain_legs(world)
        near = sum(gains[leg] * sums[leg] for leg in live if table[leg][0] == bridge and table[leg][1] != start)
        near += plain_is_way(world, speaker, listener, start, ())
        total += near if start == speaker else near * airs[0]
    return (total.numerator, total.denominator)


def plain_fewest(world, is_done):
    """The fewest legs that do it when they are shut, the least of several."""
    table = sorted(plain_legs(world))
    for many in range(len(table) + 1):
        for shut in combinations(table, many):
            if is_done(shut):
                return shut
    return None


def plain_fewest_shut(world, speaker, listener):
    def is_done(shut):
        return not plain_heard(world, listener, plain_behind(world, plain_first(world, speaker, shut), shut))
    return None if plain_near(world, speaker, listener) else plain_fewest(world, is_done)


def plain_overheard(world, seat, shut=()):
    own = {leg for leg in plain_legs(world) if leg[0] == seat and leg not in shut}
    reach = plain_behind(world, own, shut)
    return [other[0] for other in world[2] if other[3] and other[0] != seat and plain_heard(world, other[0], reach)]


def plain_guard(world, seat):
    return plain_fewest(world, lambda shut: not plain_overheard(world, seat, shut))


def ears(world):
    return [seat[0] for seat in world[2] if seat[3]]


def plain_hearers(world, speaker):
    reach = plain_behind(world, plain_first(world, speaker))
    return [seat for seat in ears(world) if plain_near(world, speaker, seat) or plain_heard(world, seat, reach)]


def plain_howl(world):
    table = sorted(plain_legs(world))
    for at, leg in enumerate(table):
        if not plain_calm(world, table[:at + 1]):
            return (tuple(table[:at]), leg)
    return None


def plain_all_heard(world, wishes):
    """A function that tells of a set of legs whether there is a way over these alone for each of the wishes."""
    after = plain_after(world)
    needs = [(plain_first(world, speaker), {leg for leg in after if plain_heard(world, listener, [leg])})
             for speaker, listener in wishes if not plain_near(world, speaker, listener)]

    def all_heard(left):
        for firsts, lasts in needs:
            found = firsts & left
            for _ in left:
                found = found | {late for leg in found for late in after[leg] if late in left}
            if not found & lasts:
                return False
        return True
    return all_heard


def plain_no_ring(world):
    """A function that tells of a set of legs whether all rows of them end."""
    after = plain_after(world)

    def no_ring(left):
        for _ in range(len(after) + 1):
            left = {leg for leg in left if left & set(after[leg])}
        return not left
    return no_ring


def plain_fewest_mutes(world, wishes):
    table, heard, ends = set(plain_legs(world)), plain_all_heard(world, wishes), plain_no_ring(world)
    return plain_fewest(world, lambda shut: heard(table - set(shut)) and ends(table - set(shut)))


def plain_fewest_calm(world, wishes):
    table, heard = set(plain_legs(world)), plain_all_heard(world, wishes)
    return plain_fewest(world, lambda shut: heard(table - set(shut)) and plain_calm(world, sorted(table - set(shut))))


def plain_troubles(world, shut, order, wishes):
    """Behind how many changes of the order something goes round or is not heard."""
    table, heard, ends = set(plain_legs(world)), plain_all_heard(world, wishes), plain_no_ring(world)
    left = table - set(shut)
    found = [] if heard(left) and ends(left) else [0]
    for at, leg in enumerate(order):
        left = left ^ {leg}
        if not (heard(left) and ends(left)):
            found.append(at + 1)
    return found


def plain_order_for(world, shut, changes, wishes):
    for order in permutations(changes):
        if not plain_troubles(world, shut, order, wishes):
            return order
    return None
