"""What to shut, and in which order to change it, so that all that is wished is still heard."""

from minusone.net import Net, check_between, check_leg, tupled
from minusone.rows import is_heard, short_ring, unsettled
from minusone.sums import howling_legs


def check_wishes(world, wishes):
    for speaker, listener in wishes:
        check_between(world, speaker, listener)


def checked_legs(world, shut, rest):
    """What is shut and the rest as tuples, if all of them are legs of the world."""
    net = Net(world)
    rows = (tupled(shut), tupled(rest))
    for row in rows:
        for leg in row:
            check_leg(net, leg)
    return rows


def are_heard(net, wishes):
    return all([is_heard(net, speaker, listener) for speaker, listener in wishes])


def ways_on(shut, stay, wrong):
    """What is shut and what must stay open, where one more of the wrong legs is shut.

    Those that come ahead of it stay open, so that no set of legs comes up twice.
    """
    found = []
    for leg in wrong:
        if leg not in stay:
            found.append((shut + (leg,), stay))
            stay = stay + (leg,)
    return found


def fewest_without(world, wishes, trouble):
    """The fewest legs without which no trouble is left and all wishes are heard.

    The least of several; None if there are none. trouble tells of a net legs
    that may not all be open together, none if there are no such ones.
    """
    tries = [((), ())]
    while tries:
        done = []
        more = []
        for shut, stay in tries:
            net = Net(world, shut)
            # What is not heard now is not heard with more legs shut either.
            if are_heard(net, wishes):
                wrong = trouble(net)
                if wrong:
                    more.extend(ways_on(shut, stay, wrong))
                else:
                    done.append(tuple(sorted(shut)))
        if done:
            return min(done)
        tries = more
    return None


def fewest_mutes(world, wishes):
    """The fewest legs without which nothing goes round and all wishes are heard; None if there are none."""
    check_wishes(world, wishes)
    return fewest_without(world, wishes, short_ring)


def fewest_calm(world, wishes):
    """The fewest legs without which all others are calm and all wishes are heard; None if there are none."""
    check_wishes(world, wishes)
    return fewest_without(world, wishes, howling_legs)


def is_right(world, shut, wishes):
    """Whether nothing goes round and all wishes are heard without the legs that are shut."""
    net = Net(world, shut)
    return unsettled(net, net.legs) == [] and are_heard(net, wishes)


def changed(shut, leg):
    """What is shut when this leg is changed."""
    if leg in shut:
        return tuple([other for other in shut if other != leg])
    return shut + (leg,)


def order_on(world, shut, left, wishes, dead):
    """The least order of the changes that are left, by which all is right at each time; None if there is none.

    What is left tells what was changed, so dead keeps what cannot be left.
    """
    if not is_right(world, shut, wishes):
        return None
    if not left:
        return ()
    for leg in left:
        rest = tuple([other for other in left if other != leg])
        if rest not in dead:
            row = order_on(world, changed(shut, leg), rest, wishes, dead)
            if row is not None:
                return (leg,) + row
            dead[rest] = True
    return None


def order_for(world, shut, changes, wishes):
    """The least order of the changes by which all is right at each time; None if there is none."""
    check_wishes(world, wishes)
    shut, changes = checked_legs(world, shut, changes)
    return order_on(world, shut, changes, wishes, {})


def first_trouble(world, shut, order, wishes):
    """After how many changes of this order not all is right for the first time; None if it always is."""
    check_wishes(world, wishes)
    shut, order = checked_legs(world, shut, order)
    if not is_right(world, shut, wishes):
        return 0
    for many, leg in enumerate(order, start=1):
        shut = changed(shut, leg)
        if not is_right(world, shut, wishes):
            return many
    return None
