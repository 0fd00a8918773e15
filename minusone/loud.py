"""How loud a listener hears a speaker, and whether all stays finite."""

from math import gcd

from minusone.data import is_gain, is_rising, is_tuple
from minusone.net import Net, check_between, passes
from minusone.ratio import added, is_less, multiplied
from minusone.rows import last_legs, live_legs, steps_to
from minusone.sums import calm_many, solved_lines, sums_of


def weights(world):
    """For each leg a weight that is 1 more than what follows it weighs; None if not all is calm."""
    net = Net(world)
    lines = solved_lines(net, net.legs, {leg: 1 for leg in net.legs})
    if len(lines) < len(net.legs):
        return None
    sums = sums_of(net, lines)
    return tuple([(leg, sums[leg]) for leg in net.legs])


def weight_behind(net, legs, table):
    """What these legs weigh, each multiplied with its gain."""
    total = (0, 1)
    for leg in legs:
        total = added(total, multiplied(net.gains[leg], table[leg]))
    return total


def are_weights(net, thing):
    """Whether this gives a weight to each leg, small or great."""
    if not is_tuple(thing, len(net.legs)):
        return False
    for leg, pair in zip(net.legs, thing):
        if not is_tuple(pair, 2) or pair[0] != leg or not is_gain(pair[1]):
            return False
        if gcd(pair[1][0], pair[1][1]) != 1:
            return False
    return True


def is_calm(world, thing):
    """Whether these are weights that show that all is calm."""
    net = Net(world)
    if not are_weights(net, thing):
        return False
    table = {leg: weight for leg, weight in thing}
    return all([is_less(weight_behind(net, net.after[leg], table), table[leg]) for leg in net.legs])


def howl_over(net):
    """Legs of this net that are calm, and a leg that howls with them; None if all is calm."""
    many = calm_many(net, net.legs)
    if many == len(net.legs):
        return None
    return (tuple(net.legs[:many]), net.legs[many])


def howl(world):
    """Legs that are calm, and a leg that howls with them; None if all is calm."""
    return howl_over(Net(world))


def is_howl(world, thing):
    """Whether these are legs that are calm, and a leg that howls with them."""
    if not is_tuple(thing, 2) or not isinstance(thing[0], tuple):
        return False
    part, leg = thing
    net = Net(world)
    if not all([other in net.legs for other in part]) or not is_rising(part):
        return False
    if leg not in net.legs or leg in part:
        return False
    return calm_many(net, part + (leg,)) == len(part)


def start_gain(net, speaker, start):
    """How loud the voice of the speaker starts there."""
    if start == speaker:
        return (1, 1)
    return net.room_of(speaker)[2]


def loud_over(net, speaker, listener):
    """How loud the listener hears the speaker over this net; None if it is not finite."""
    goal = net.place(listener)
    ends = last_legs(net, listener)
    live = live_legs(net, speaker, steps_to(net, ends))
    lines = solved_lines(net, live, {leg: 1 for leg in ends})
    if len(lines) < len(live):
        return None
    sums = sums_of(net, lines)
    total = (0, 1)
    for start in net.starts(speaker):
        came = net.place(start)
        here = weight_behind(net, [leg for leg in net.out_of(came) if leg in sums], sums)
        if passes(came, goal):
            here = added(here, (1, 1))
        total = added(total, multiplied(start_gain(net, speaker, start), here))
    return total


def loud(world, speaker, listener):
    """How loud the listener hears the speaker; None if it is not finite."""
    check_between(world, speaker, listener)
    return loud_over(Net(world), speaker, listener)
