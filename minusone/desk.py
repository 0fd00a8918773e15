"""A desk that answers requests about a world, of which legs are shut and opened."""

from minusone.cuts import cut_over, overheard_over
from minusone.data import is_name
from minusone.errors import BadLine, NoEar, NoLeg, NoSeat, NoVoice
from minusone.loud import howl_over, loud_over
from minusone.net import Net, check_between, check_ear, check_leg, check_voice
from minusone.rings import ring_over
from minusone.texts import gain_text, leg_text, way_text, world_of
from minusone.ways import hearers_over, times_over, way_over


class Desk:
    """A world, its net with all legs, those that are shut now, and the net of the open ones."""

    def __init__(self, world):
        self.world = world
        self.whole = Net(world)
        self.shut = []
        self.net = self.whole

    def change(self, shut):
        self.shut = shut
        self.net = Net(self.world, shut)


def joined(words):
    """The words with single blanks between; - for none."""
    return " ".join(words) or "-"


def leg_texts(row):
    return joined([leg_text(leg) for leg in row])


def tell_legs(net):
    return leg_texts(net.legs)


def tell_ring(net):
    return leg_texts(ring_over(net) or ())


def tell_calm(net):
    found = howl_over(net)
    return "yes" if found is None else "no " + leg_text(found[1])


def tell_times(net, speaker, listener):
    many = times_over(net, speaker, listener)
    return "endless" if many is None else str(many)


def tell_way(net, speaker, listener):
    found = way_over(net, speaker, listener)
    return "-" if found is None else way_text(found)


def tell_loud(net, speaker, listener):
    pair = loud_over(net, speaker, listener)
    return "endless" if pair is None else gain_text(pair)


def tell_cut(net, speaker, listener):
    row = cut_over(net, speaker, listener)
    return "never" if row is None else leg_texts(row)


def tell_hearers(desk, speaker):
    check_voice(desk.world, speaker)
    return joined(hearers_over(desk.net, speaker))


def tell_overheard(desk, seat):
    check_ear(desk.world, seat)
    return joined(overheard_over(desk.net, seat))


def shut_leg(desk, leg):
    desk.change([other for other in desk.shut if other != leg] + [leg])


def open_leg(desk, leg):
    desk.change([other for other in desk.shut if other != leg])


OF_A_LEG = {"shut": shut_leg, "open": open_leg}
OF_ALL = {"legs": tell_legs, "ring": tell_ring, "calm": tell_calm}
OF_A_SEAT = {"hearers": tell_hearers, "overheard": tell_overheard}
OF_TWO_SEATS = {"times": tell_times, "way": tell_way, "loud": tell_loud, "cut": tell_cut}


def many_names(word):
    """How many names stand behind the first word of a request about seats or about all; None for another word."""
    if word in OF_ALL:
        return 0
    if word in OF_A_SEAT:
        return 1
    return 2 if word in OF_TWO_SEATS else None


def are_names(words, many):
    return len(words) == many and all([is_name(word) for word in words])


def is_request(line):
    """Whether this is written like a request; what it names need not be there."""
    word, *rest = line.split(" ")
    if word in OF_A_LEG:
        return len(rest) == 1 and are_names(rest[0].split("."), 2)
    return are_names(rest, many_names(word))


def told(desk, word, rest):
    """The answer to a request with this first word and this rest, if it is not refused."""
    if word in OF_A_LEG:
        leg = tuple(rest[0].split("."))
        check_leg(desk.whole, leg)
        do = OF_A_LEG[word]
        do(desk, leg)
        return "done"
    if word in OF_ALL:
        tell = OF_ALL[word]
        return tell(desk.net)
    if word in OF_A_SEAT:
        tell = OF_A_SEAT[word]
        return tell(desk, rest[0])
    speaker, listener = rest
    check_between(desk.world, speaker, listener)
    tell = OF_TWO_SEATS[word]
    return tell(desk.net, speaker, listener)


def answer_to(desk, line):
    """The answer to one request."""
    word, *rest = line.split(" ")
    try:
        return told(desk, word, rest)
    except NoSeat:
        return "refused NoSeat"
    except NoLeg:
        return "refused NoLeg"
    except NoVoice:
        return "refused NoVoice"
    except NoEar:
        return "refused NoEar"


def answers(text):
    """The answers to the requests of the text, which stand behind the world and an empty line."""
    lines = text.split("\n")
    many = lines.index("") if "" in lines else len(lines)
    world = world_of(lines[:many]) if many > 0 else ((), (), (), ())
    if many == len(lines):
        raise BadLine(many)
    for number, line in enumerate(lines):
        if number > many and not is_request(line):
            raise BadLine(number)
    desk = Desk(world)
    return [answer_to(desk, line) for line in lines[many + 1:]]
