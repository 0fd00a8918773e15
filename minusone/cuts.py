"""What to shut, so that somebody is not heard."""

from minusone.data import is_run
from minusone.net import Net, check_between, check_ear
from minusone.rows import first_legs, heard_start, last_legs, reached_from


def hand_on(owner, came, spot, leg):
    """Give the leg to the one that asks for it, which gives up its own one, and so on."""
    while leg is not None:
        early = came[leg]
        owner[leg] = early
        leg = None if early is None else spot[early]


def add_row(after, firsts, ends, owner):
    """Make room for one more row of legs from the first ones to the ends; False if there is none.

    owner tells for each leg the one ahead of it in its row, None for the
    first of a row, and the leg itself if it stands in no row. Nobody owns
    two legs; that keeps the rows apart. To take a leg for another row, its
    owner must be given another leg, or have its row end there.
    """
    came = {leg: None for leg in firsts}
    spot = {}
    waiting = list(firsts)
    while waiting:
        leg = waiting.pop()
        early = owner[leg]
        # What is the first of a row can be given no other leg but the first ones, and these are all here.
        if early is not None:
            spot[early] = leg
            if early in ends:
                hand_on(owner, came, spot, leg)
                return True
            for late in after[early] + [early]:
                if late not in came:
                    came[late] = early
                    waiting.append(late)
    return False


def rows_apart(net, firsts, ends, shut):
    """As many rows from the first legs to the ends as there are without a leg in common.

    The legs that are shut stand in none of them.
    """
    after = {leg: [late for late in net.after[leg] if late not in shut] for leg in net.legs if leg not in shut}
    begin = [leg for leg in firsts if leg not in shut]
    owner = {leg: leg for leg in after}
    while add_row(after, begin, ends, owner):
        pass
    behind = {owner[leg]: leg for leg in owner if owner[leg] != leg}
    rows = []
    for leg in begin:
        if owner[leg] is None:
            row = [leg]
            while row[-1] in behind:
                row.append(behind[row[-1]])
            rows.append(tuple(row))
    return rows


def fewest_between(net, firsts, ends):
    """The fewest legs without which no row leads from the first legs to the ends.

    The least of several, ascending. There are as many as rows apart, so a
    leg is one of them if there is a row less without it.
    """
    rows = rows_apart(net, firsts, ends, [])
    shut = []
    for leg in net.legs:
        if any([leg in row for row in rows]):
            fewer = rows_apart(net, firsts, ends, shut + [leg])
            if len(fewer) < len(rows):
                shut.append(leg)
                rows = fewer
    return tuple(shut)


def cut_over(net, speaker, listener):
    """The fewest legs of this net without which there is no way, the least of several.

    None if there is a way without legs.
    """
    if heard_start(net, speaker, listener) is not None:
        return None
    return fewest_between(net, first_legs(net, speaker), last_legs(net, listener))


def fewest_shut(world, speaker, listener):
    """The fewest legs without which there is no way, the least of several.

    None if there is a way without legs.
    """
    check_between(world, speaker, listener)
    return cut_over(Net(world), speaker, listener)


def start_of(net, speaker, leg):
    """A start of the voice of the speaker from which it goes over this leg first."""
    return [start for start in net.starts(speaker) if leg in net.out_of(net.place(start))][0]


def apart(world, speaker, listener):
    """As many ways without a leg in common as there are; None if there is one without legs."""
    check_between(world, speaker, listener)
    net = Net(world)
    if heard_start(net, speaker, listener) is not None:
        return None
    rows = rows_apart(net, first_legs(net, speaker), last_legs(net, listener), [])
    return tuple([(start_of(net, speaker, row[0]), row) for row in rows])


def are_apart(rows):
    """Whether no two of these rows have a leg in common."""
    found = {}
    for at, row in enumerate(rows):
        for leg in row:
            if found.setdefault(leg, at) != at:
                return False
    return True


def is_apart(world, speaker, listener, thing):
    """Whether these are as many ways without a leg in common as there are."""
    check_between(world, speaker, listener)
    if not isinstance(thing, tuple):
        return False
    net = Net(world)
    if heard_start(net, speaker, listener) is not None:
        return False
    if not all([is_run(net, speaker, listener, part) for part in thing]):
        return False
    if not are_apart([row for _, row in thing]):
        return False
    return len(thing) == len(rows_apart(net, first_legs(net, speaker), last_legs(net, listener), []))


def own_legs(net, seat):
    """The legs that go out of the loudspeaker of the seat."""
    return [leg for leg in net.legs if leg[0] == seat]


def others_at(net, seat, legs):
    """The seats, but for this one, that hear what comes by one of these legs."""
    return [name for name in net.ears_at([net.comes[leg] for leg in legs]) if name != seat]


def overheard_over(net, seat):
    """The other seats that hear over this net what is told to this seat alone."""
    return others_at(net, seat, reached_from(net, own_legs(net, seat)))


def overheard(world, seat):
    """The other seats that hear what is told to this seat alone."""
    check_ear(world, seat)
    return overheard_over(Net(world), seat)


def guard(world, seat):
    """The fewest legs without which nobody overhears the seat, the least of several."""
    check_ear(world, seat)
    net = Net(world)
    ends = [leg for leg in net.legs if others_at(net, seat, [leg])]
    return fewest_between(net, own_legs(net, seat), ends)
