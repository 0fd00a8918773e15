"""How often a listener hears a speaker."""

from minusone.data import is_run, is_tuple
from minusone.net import Net, check_between, check_voice, passes
from minusone.rows import (first_legs, heard_start, last_legs, live_legs, reached_from, settled, shortest_row,
                           steps_to, unsettled)


def rests_from(net, came, goal, rests):
    """How many rows of legs, () among them, lead from this place to the goal.

    rests tells how many of them go on behind each leg that counts.
    """
    many = sum([rests[leg] for leg in net.out_of(came) if leg in rests])
    if passes(came, goal):
        many += 1
    return many


def shortest_run(net, speaker, steps):
    """The start and the shortest row of legs from it to where no step is left.

    The least of several, the start first; None if there is none.
    """
    best = None
    for start in net.starts(speaker):
        row = shortest_row(net, net.out_of(net.place(start)), steps)
        if row is not None and (best is None or len(row) < len(best[1])):
            best = (start, row)
    return best


def times_over(net, speaker, listener):
    """How many ways there are over this net; None if they are endless."""
    goal = net.place(listener)
    live = live_legs(net, speaker, steps_to(net, last_legs(net, listener)))
    order = settled(net, live)
    if len(order) < len(live):
        return None
    rests = {}
    for leg in order:
        rests[leg] = rests_from(net, net.comes[leg], goal, rests)
    return sum([rests_from(net, net.place(start), goal, rests) for start in net.starts(speaker)])


def times(world, speaker, listener):
    """How many ways there are; None if they are endless."""
    check_between(world, speaker, listener)
    return times_over(Net(world), speaker, listener)


def way_over(net, speaker, listener):
    """The way over this net with the fewest legs, the least of several; None if there is none."""
    start = heard_start(net, speaker, listener)
    if start is not None:
        return (start, ())
    return shortest_run(net, speaker, steps_to(net, last_legs(net, listener)))


def way(world, speaker, listener):
    """The way with the fewest legs, the least of several; None if there is none."""
    check_between(world, speaker, listener)
    return way_over(Net(world), speaker, listener)


def reached(world, speaker):
    """The legs that some voice of the speaker comes over."""
    check_voice(world, speaker)
    net = Net(world)
    return tuple(sorted(reached_from(net, first_legs(net, speaker))))


def hearers_over(net, speaker):
    """The seats that hear the speaker over this net."""
    came = [net.place(start) for start in net.starts(speaker)]
    came.extend([net.comes[leg] for leg in reached_from(net, first_legs(net, speaker))])
    return net.ears_at(came)


def hearers(world, speaker):
    """The seats that hear the speaker."""
    check_voice(world, speaker)
    return hearers_over(Net(world), speaker)


def circle_in(net, legs):
    """Legs that go round, each behind the one that it follows, the first behind the last.

    Each of the given legs is followed by one of them.
    """
    leg = legs[0]
    row = []
    while leg not in row:
        row.append(leg)
        leg = [late for late in net.after[leg] if late in legs][0]
    return tuple(row[row.index(leg):])


def echo(world, speaker, listener):
    """A reason that the ways are endless; None if they are not."""
    check_between(world, speaker, listener)
    net = Net(world)
    steps = steps_to(net, last_legs(net, listener))
    rest = unsettled(net, live_legs(net, speaker, steps))
    if not rest:
        return None
    circle = circle_in(net, rest)
    last = circle[-1]
    start, ahead = shortest_run(net, speaker, steps_to(net, [last]))
    behind = () if steps[last] == 0 else shortest_row(net, net.after[last], steps)
    return (start, ahead, circle, behind)


def is_echo(world, speaker, listener, thing):
    """Whether this is a reason that the ways are endless."""
    check_between(world, speaker, listener)
    if not is_tuple(thing, 4):
        return False
    start, ahead, circle, behind = thing
    if not all([isinstance(row, tuple) for row in (ahead, circle, behind)]) or circle == ():
        return False
    net = Net(world)
    if not is_run(net, speaker, listener, (start, ahead + circle + behind)):
        return False
    return circle[0] in net.after[circle[-1]]
