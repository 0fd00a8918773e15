"""Worlds, their legs, and the ways of a voice."""

from minusone.net import Net, check_between, check_leg, passes, tupled


def is_name(thing):
    if not isinstance(thing, str) or not 1 <= len(thing) <= 8:
        return False
    return all(["a" <= letter <= "z" for letter in thing])


def is_number(thing):
    return isinstance(thing, int) and not isinstance(thing, bool)


def is_tuple(thing, size):
    return isinstance(thing, tuple) and len(thing) == size


def is_gain(thing):
    return is_tuple(thing, 2) and all([is_number(part) and part >= 1 for part in thing])


def is_rising(names):
    return all([low < high for low, high in zip(names, names[1:])])


def has_names(rows):
    """Whether rows with their names ahead are ascending, no name twice."""
    return is_rising([row[0] for row in rows])


def is_join(thing, bridges):
    if not is_tuple(thing, 5):
        return False
    name, one, other, there, back = thing
    if not is_name(name) or one not in bridges or other not in bridges or one == other:
        return False
    return all([gain is None or is_gain(gain) for gain in (there, back)])


def is_seat(thing, bridges):
    if not is_tuple(thing, 4):
        return False
    name, bridge, speaks, hears = thing
    if not is_name(name) or bridge not in bridges:
        return False
    return isinstance(speaks, bool) and isinstance(hears, bool)


def is_room(thing, names):
    """Whether this is a room of seats with these names."""
    if not is_tuple(thing, 3):
        return False
    name, members, air = thing
    if not is_name(name) or not is_gain(air):
        return False
    if not isinstance(members, tuple) or len(members) < 2:
        return False
    return all([member in names for member in members]) and is_rising(members)


def are_bridges(thing):
    if not isinstance(thing, tuple):
        return False
    return all([is_name(name) for name in thing]) and is_rising(thing)


def are_joins(thing, bridges):
    if not isinstance(thing, tuple):
        return False
    return all([is_join(join, bridges) for join in thing]) and has_names(thing)


def are_seats(thing, bridges):
    if not isinstance(thing, tuple):
        return False
    return all([is_seat(seat, bridges) for seat in thing]) and has_names(thing)


def are_rooms(thing, names):
    if not isinstance(thing, tuple) or not all([is_room(room, names) for room in thing]):
        return False
    members = [member for room in thing for member in room[1]]
    return has_names(thing) and len(set(members)) == len(members)


def is_world(thing):
    """Whether this is a world, to the letter: a list in it is no tuple."""
    if not is_tuple(thing, 4):
        return False
    bridges, joins, seats, rooms = thing
    if not are_bridges(bridges) or not are_joins(joins, bridges) or not are_seats(seats, bridges):
        return False
    names = [seat[0] for seat in seats]
    return are_rooms(rooms, names) and all([join[0] not in names for join in joins])


def legs(world):
    """All legs of the world, ascending."""
    return Net(world).legs


def follows(world, leg, ahead):
    """Whether a voice that comes by the leg ahead goes on by this leg."""
    net = Net(world)
    leg = tupled(leg)
    ahead = tupled(ahead)
    check_leg(net, leg)
    check_leg(net, ahead)
    return leg in net.after[ahead]


def is_run(net, speaker, listener, thing):
    """Whether this is a way, where the speaker speaks and the listener hears."""
    if not is_tuple(thing, 2) or not isinstance(thing[1], tuple):
        return False
    start, row = thing
    if start not in net.starts(speaker):
        return False
    came = net.place(start)
    for leg in row:
        if leg not in net.legs or not passes(came, (net.leaves[leg], leg[0])):
            return False
        came = net.comes[leg]
    return passes(came, net.place(listener))


def is_way(world, speaker, listener, thing):
    """Whether this is a way from the speaker to the listener."""
    check_between(world, speaker, listener)
    # Most of what is no way is no pair, and then the net need not be laid out.
    return is_tuple(thing, 2) and is_run(Net(world), speaker, listener, thing)
