"""Rows of legs, each of which follows the one ahead."""

from minusone.net import passes


def first_legs(net, speaker):
    """The legs that the voice of the speaker goes over first."""
    found = {}
    for start in net.starts(speaker):
        for leg in net.out_of(net.place(start)):
            found[leg] = True
    return list(found)


def heard_start(net, speaker, listener):
    """The first start of the speaker's voice that the listener hears without any leg; None if there is none."""
    goal = net.place(listener)
    for start in net.starts(speaker):
        if passes(net.place(start), goal):
            return start
    return None


def last_legs(net, listener):
    """The legs by which a voice comes to the listener."""
    goal = net.place(listener)
    return [leg for leg in net.legs if passes(net.comes[leg], goal)]


def reached_from(net, firsts):
    """These legs and those that follow them, and so on."""
    seen = {leg: True for leg in firsts}
    waiting = list(seen)
    while waiting:
        leg = waiting.pop()
        for late in net.after[leg]:
            if late not in seen:
                seen[late] = True
                waiting.append(late)
    return list(seen)


def is_heard(net, speaker, listener):
    """Whether there is a way from the speaker to the listener."""
    if heard_start(net, speaker, listener) is not None:
        return True
    goal = net.place(listener)
    return any([passes(net.comes[leg], goal) for leg in reached_from(net, first_legs(net, speaker))])


def legs_ahead(net):
    """For each leg those that it follows."""
    ahead = {leg: [] for leg in net.legs}
    for leg in net.legs:
        for late in net.after[leg]:
            ahead[late].append(leg)
    return ahead


def steps_to(net, ends):
    """How many legs must follow each leg until one of the ends is passed.

    A leg that none of the ends comes behind is left out.
    """
    steps = {leg: 0 for leg in ends}
    if not ends:
        return steps
    ahead = legs_ahead(net)
    found = ends
    many = 0
    while found:
        many += 1
        more = []
        for leg in found:
            for early in ahead[leg]:
                if early not in steps:
                    steps[early] = many
                    more.append(early)
        found = more
    return steps


def nearest_leg(choice, steps):
    """That of these legs with the fewest steps, the least of several; None if there is none."""
    found = [(steps[leg], leg) for leg in choice if leg in steps]
    if not found:
        return None
    return min(found)[1]


def shortest_row(net, choice, steps):
    """The shortest row that begins with one of these legs and ends where no step is left.

    The least of several; None if there is none.
    """
    leg = nearest_leg(choice, steps)
    if leg is None:
        return None
    row = [leg]
    while steps[leg] > 0:
        leg = nearest_leg(net.after[leg], steps)
        row.append(leg)
    return tuple(row)


def live_legs(net, speaker, steps):
    """The legs that stand in some way from the speaker to where the steps lead."""
    return [leg for leg in reached_from(net, first_legs(net, speaker)) if leg in steps]


def settled(net, legs):
    """Those of these legs behind which none of them goes round.

    Each of them stands behind all of these legs that follow it.
    """
    many = {leg: 0 for leg in legs}
    ahead = {leg: [] for leg in legs}
    for leg in legs:
        for late in net.after[leg]:
            if late in ahead:
                many[leg] += 1
                ahead[late].append(leg)
    done = []
    waiting = [leg for leg in legs if many[leg] == 0]
    while waiting:
        leg = waiting.pop()
        done.append(leg)
        for early in ahead[leg]:
            many[early] -= 1
            if many[early] == 0:
                waiting.append(early)
    return done


def unsettled(net, legs):
    """Those of these legs behind which some of them go round."""
    done = {leg: True for leg in settled(net, legs)}
    return [leg for leg in legs if leg not in done]


def ring_through(net, leg, most):
    """The leg and the fewest others that go round with it, () if there are none of at most so many in all."""
    rows = [(leg,)]
    seen = {leg: True}
    for _ in range(most):
        more = []
        for row in rows:
            for late in net.after[row[-1]]:
                if late == leg:
                    return row
                if late not in seen:
                    seen[late] = True
                    more.append(row + (late,))
        rows = more
    return ()


def short_ring(net):
    """As few legs as there are that go round; () if none do."""
    best = ()
    most = len(net.legs)
    for leg in net.legs:
        row = ring_through(net, leg, most)
        if row:
            best = row
            most = len(row) - 1
    return best
