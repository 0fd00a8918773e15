"""How often a listener hears a speaker."""

from minusone.data import is_tuple, is_way
from minusone.net import net_between, net_from, passes


def reached_legs(net, speaker):
    """The legs that some voice of the speaker comes over, ascending."""
    waiting = []
    for start in net.starts(speaker):
        waiting.extend(net.out_of(net.place(start)))
    seen = {}
    while waiting:
        leg = waiting.pop()
        if leg not in seen:
            seen[leg] = True
            waiting.extend(net.after[leg])
    return sorted(seen)


def last_legs(net, listener):
    """The legs by which a voice comes to the listener."""
    goal = net.place(listener)
    return [leg for leg in net.legs if passes(net.comes[leg], goal)]


def steps_to(net, ends):
    """How many legs must follow each leg until one of the ends is passed.

    A leg that none of the ends comes behind is left out.
    """
    steps = {leg: 0 for leg in ends}
    many = 0
    found = ends
    while found:
        many += 1
        found = [leg for leg in net.legs
                 if leg not in steps and any([other in steps for other in net.after[leg]])]
        for leg in found:
            steps[leg] = many
    return steps


def shortest_row(net, came, ends):
    """The shortest row of legs from this place to one of the ends.

    The least one of several; None if there is none.
    """
    steps = steps_to(net, ends)
    row = []
    choice = [(steps[leg], leg) for leg in net.out_of(came) if leg in steps]
    while choice:
        left, nearest = min(choice)
        row.append(nearest)
        if left == 0:
            return tuple(row)
        choice = [(steps[leg], leg) for leg in net.after[nearest] if leg in steps]
    return None


def shortest_run(net, speaker, ends):
    """The start and the shortest row of legs from it to one of the ends.

    The least of several, the start first; None if there is none.
    """
    found = []
    for start in net.starts(speaker):
        row = shortest_row(net, net.place(start), ends)
        if row is not None:
            found.append((len(row), start, row))
    if not found:
        return None
    _, first, best = min(found)
    return (first, best)


def live_legs(net, speaker, listener):
    """The legs that stand in some way from the speaker to the listener."""
    steps = steps_to(net, last_legs(net, listener))
    return [leg for leg in reached_legs(net, speaker) if leg in steps]


def rests_from(net, came, goal, rests):
    """How many rows of legs, () among them, lead from this place to the goal.

    rests tells how many of them go on behind each leg that counts.
    """
    many = sum([rests[leg] for leg in net.out_of(came) if leg in rests])
    if passes(came, goal):
        many += 1
    return many


def rests_behind(net, live, goal):
    """How many rows of legs, () among them, lead to the goal behind each live leg.

    None if they are endless for one of them.
    """
    rests = {}
    waiting = live
    while waiting:
        ready = [leg for leg in waiting
                 if not any([other in waiting for other in net.after[leg]])]
        if not ready:
            # Behind each of these comes another one of them: something goes round.
            return None
        for leg in ready:
            rests[leg] = rests_from(net, net.comes[leg], goal, rests)
        waiting = [leg for leg in waiting if leg not in rests]
    return rests


def times(world, speaker, listener):
    """How many ways there are; None if they are endless."""
    net = net_between(world, speaker, listener)
    goal = net.place(listener)
    rests = rests_behind(net, live_legs(net, speaker, listener), goal)
    if rests is None:
        return None
    starts = net.starts(speaker)
    return sum([rests_from(net, net.place(start), goal, rests) for start in starts])


def way(world, speaker, listener):
    """The way with the fewest legs, the least of several; None if there is none."""
    net = net_between(world, speaker, listener)
    goal = net.place(listener)
    for start in net.starts(speaker):
        if passes(net.place(start), goal):
            return (start, ())
    return shortest_run(net, speaker, last_legs(net, listener))


def reached(world, speaker):
    """The legs that some voice of the speaker comes over."""
    return tuple(reached_legs(net_from(world, speaker), speaker))


def hearers(world, speaker):
    """The seats that hear the speaker."""
    net = net_from(world, speaker)
    came = [net.place(start) for start in net.starts(speaker)]
    came.extend([net.comes[leg] for leg in reached_legs(net, speaker)])
    heard = []
    for seat in net.seats:
        if net.hears(seat) and any([passes(place, net.place(seat)) for place in came]):
            heard.append(seat)
    return heard


def echo(world, speaker, listener):
    """A reason that the ways are endless; None if they are not."""
    net = net_between(world, speaker, listener)
    ends = last_legs(net, listener)
    for leg in live_legs(net, speaker, listener):
        circle = shortest_row(net, net.comes[leg], [leg])
        if circle is not None:
            start, ahead = shortest_run(net, speaker, [leg])
            behind = () if leg in ends else shortest_row(net, net.comes[leg], ends)
            return (start, ahead, circle, behind)
    return None


def is_echo(world, speaker, listener, thing):
    """Whether this is a reason that the ways are endless."""
    net = net_between(world, speaker, listener)
    if not is_tuple(thing, 4):
        return False
    start, ahead, circle, behind = thing
    if not all([isinstance(row, tuple) for row in (ahead, circle, behind)]) or circle == ():
        return False
    if not is_way(world, speaker, listener, (start, ahead + circle + behind)):
        return False
    return circle[0] in net.after[circle[-1]]
