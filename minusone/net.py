"""The legs of a world, laid out so that a voice can be followed."""

from minusone.errors import NoEar, NoLeg, NoSeat, NoVoice


def tupled(value):
    """The value with a tuple for each list in it."""
    if isinstance(value, (list, tuple)):
        return tuple([tupled(part) for part in value])
    return value


def passes(came, leaves):
    """Whether what came to one place goes out at the other.

    A place is a pair (bridge, line). A bridge sends to each line what
    comes by all of its other lines, never what comes by the same one.
    """
    return came[0] == leaves[0] and came[1] != leaves[1]


class Net:
    """The seats and the legs of one world.

    leaves and comes give each leg's two places; after gives the legs that
    follow it. All lists of legs and of seats in here are ascending.
    """

    def __init__(self, world):
        _, joins, seats, rooms = tupled(world)
        self.seats = {seat[0]: seat for seat in seats}
        self.mates = {name: room[1] for room in rooms for name in room[1]}
        self.leaves = {}
        self.comes = {}
        for join in joins:
            self.add_join(join)
        for room in rooms:
            self.add_room(room[1])
        self.legs = sorted(self.leaves)
        self.after = {leg: self.out_of(self.comes[leg]) for leg in self.legs}

    def add_join(self, join):
        name, one, other, there, back = join
        if there is not None:
            self.add_leg((name, "there"), (one, name), (other, name))
        if back is not None:
            self.add_leg((name, "back"), (other, name), (one, name))

    def add_room(self, members):
        for seat in members:
            for mate in members:
                if seat != mate and self.hears(seat) and self.speaks(mate):
                    self.add_leg((seat, mate), self.place(seat), self.place(mate))

    def add_leg(self, leg, leaves, comes):
        self.leaves[leg] = leaves
        self.comes[leg] = comes

    def speaks(self, seat):
        return self.seats[seat][2]

    def hears(self, seat):
        return self.seats[seat][3]

    def place(self, seat):
        """The place where a voice comes in from this seat, or out to it."""
        return (self.seats[seat][1], seat)

    def starts(self, speaker):
        """Where the voice of a seat that speaks starts."""
        members = self.mates.get(speaker, (speaker,))
        return [seat for seat in members if self.speaks(seat)]

    def out_of(self, came):
        """The legs that what came to this place goes out by."""
        return [leg for leg in self.legs if passes(came, self.leaves[leg])]


def check_seat(net, name):
    if not isinstance(name, str) or name not in net.seats:
        raise NoSeat(name)


def check_leg(net, leg):
    if leg not in net.legs:
        raise NoLeg(leg)


def net_from(world, speaker):
    """The net of the world, if this seat is there and speaks."""
    net = Net(world)
    check_seat(net, speaker)
    if not net.speaks(speaker):
        raise NoVoice(speaker)
    return net


def net_between(world, speaker, listener):
    """The net of the world, if one seat is there and speaks, the other hears."""
    net = Net(world)
    check_seat(net, speaker)
    check_seat(net, listener)
    if not net.speaks(speaker):
        raise NoVoice(speaker)
    if not net.hears(listener):
        raise NoEar(listener)
    return net
