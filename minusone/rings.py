"""What goes round in a world."""

from minusone.net import Net
from minusone.rows import shortest_row, steps_to, unsettled


def has_ring(world):
    """Whether anything goes round."""
    net = Net(world)
    return unsettled(net, net.legs) != []


def ring_over(net):
    """The ring over this net with the fewest legs, the least of several; None if there is none."""
    best = None
    for leg in unsettled(net, net.legs):
        row = shortest_row(net, net.after[leg], steps_to(net, [leg]))
        if row is not None and (best is None or len(row) < len(best)):
            # The row comes back to the leg. No leg of it is less: that one came up before, with no more legs.
            best = (leg,) + row[:-1]
    return best


def least_ring(world):
    """The ring with the fewest legs, the least of several; None if there is none."""
    return ring_over(Net(world))


def spare_joins(world):
    """The fewest joins without which nothing goes round and all hangs together as before.

    The least of several. The world has no rooms, and none of its joins is shut either way.
    """
    bridges, joins, _, _ = world
    part = {bridge: bridge for bridge in bridges}
    spare = []
    # The last joins are kept, so that the first ones are spare.
    for name, one, other, _, _ in reversed(joins):
        old = part[one]
        new = part[other]
        if old == new:
            spare.append(name)
        for bridge in bridges:
            if part[bridge] == old:
                part[bridge] = new
    return tuple(sorted(spare))
