"""The legs of a world, laid out so that a voice can be followed."""

from minusone.errors import NoEar, NoLeg, NoSeat, NoVoice


def tupled(value):
    """The value with a tuple for each list in it."""
    if isinstance(value, (list, tuple)):
        return tuple([tupled(part) for part in value])
    return value


def passes(came, leaves):
    """Whether what came to one place goes out at the other.

    A place is a pair (bridge, line). A bridge sends to each line what
    comes by all of its other lines, never what comes by the same one.
    """
    return came[0] == leaves[0] and came[1] != leaves[1]


class Net:
    """The seats of one world, and its legs without those that are shut.

    A leg leaves its bridge by the line that it is named after. For each
    leg, comes gives the place to which it comes, gains its gain, and after
    the legs that follow it; out gives the legs that leave a bridge. All
    lists of legs and of seats in here are ascending.
    """

    def __init__(self, world, shut=()):
        _, joins, seats, rooms = world
        self.shut = shut
        self.seats = {seat[0]: seat for seat in seats}
        self.rooms = rooms
        self.leaves = {}
        self.comes = {}
        self.gains = {}
        for join in joins:
            self.add_join(join)
        for room in rooms:
            self.add_room(room)
        self.legs = sorted(self.leaves)
        self.out = {}
        for leg in self.legs:
            self.out.setdefault(self.leaves[leg], []).append(leg)
        self.after = {leg: self.out_of(self.comes[leg]) for leg in self.legs}

    def add_join(self, join):
        name, one, other, there, back = join
        if there is not None:
            self.add_leg((name, "there"), one, (other, name), there)
        if back is not None:
            self.add_leg((name, "back"), other, (one, name), back)

    def add_room(self, room):
        _, members, air = room
        ears = [seat for seat in members if self.hears(seat)]
        for mate in members:
            if self.speaks(mate):
                place = self.place(mate)
                for seat in ears:
                    if seat != mate:
                        self.add_leg((seat, mate), self.seats[seat][1], place, air)

    def add_leg(self, leg, bridge, place, gain):
        if leg not in self.shut:
            self.leaves[leg] = bridge
            self.comes[leg] = place
            self.gains[leg] = gain

    def speaks(self, seat):
        return self.seats[seat][2]

    def hears(self, seat):
        return self.seats[seat][3]

    def place(self, seat):
        """The place where a voice comes in from this seat, or out to it."""
        return (self.seats[seat][1], seat)

    def room_of(self, seat):
        """The room of the seat; None if it stands in none."""
        for room in self.rooms:
            if seat in room[1]:
                return room
        return None

    def starts(self, speaker):
        """Where the voice of a seat that speaks starts."""
        room = self.room_of(speaker)
        if room is None:
            return [speaker]
        return [seat for seat in room[1] if self.speaks(seat)]

    def out_of(self, came):
        """The legs that what came to this place goes out by."""
        bridge, line = came
        return [leg for leg in self.out.get(bridge, ()) if leg[0] != line]

    def ears_at(self, came):
        """The seats that hear what came to one of these places."""
        lines = {}
        for bridge, line in came:
            lines.setdefault(bridge, []).append(line)
        heard = []
        for name, at, _, hears in self.seats.values():
            if hears and any([other != name for other in lines.get(at, ())]):
                heard.append(name)
        return heard


def seat_of(world, name):
    """The seat of this name; the net need not be laid out to find it."""
    for seat in world[2]:
        if seat[0] == name:
            return seat
    raise NoSeat(name)


def check_voice(world, speaker):
    if not seat_of(world, speaker)[2]:
        raise NoVoice(speaker)


def check_ear(world, listener):
    if not seat_of(world, listener)[3]:
        raise NoEar(listener)


def check_between(world, speaker, listener):
    """Raise what there is to raise of a speaker and a listener."""
    voice = seat_of(world, speaker)
    ear = seat_of(world, listener)
    if not voice[2]:
        raise NoVoice(speaker)
    if not ear[3]:
        raise NoEar(listener)


def check_leg(net, leg):
    if leg not in net.legs:
        raise NoLeg(leg)
