"""Worlds, legs, ways and gains as texts."""

from minusone.data import are_bridges, is_join, is_room, is_seat, legs
from minusone.errors import BadLine, BadText

DIGITS = "0123456789"
SEAT_MARKS = {"SH": (True, True), "S": (True, False), "H": (False, True), "-": (False, False)}


def gain_mark(gain):
    """The gain as it stands in the text of a world."""
    if gain is None:
        return "-"
    up, down = gain
    return f"{up}/{down}"


def seat_mark(speaks, hears):
    """What stands behind the bridge of a seat."""
    if speaks:
        return "SH" if hears else "S"
    return "H" if hears else "-"


def join_line(join):
    name, one, other, there, back = join
    return " ".join([name, one, ">", other, gain_mark(there), gain_mark(back)])


def seat_line(seat):
    name, bridge, speaks, hears = seat
    return " ".join([name, "@", bridge, seat_mark(speaks, hears)])


def room_line(room):
    name, members, air = room
    return " ".join([name, "=", "+".join(members), gain_mark(air)])


def world_text(world):
    """The lines of the world, with line feeds between."""
    bridges, joins, seats, rooms = world
    lines = [" ".join(bridges) or "-"]
    lines.extend([join_line(join) for join in joins])
    lines.extend([seat_line(seat) for seat in seats])
    lines.extend([room_line(room) for room in rooms])
    return "\n".join(lines)


def is_count(text):
    """Whether this is a number from 1, of three digits at most, without a leading zero."""
    return 1 <= len(text) <= 3 and text[0] != "0" and all([digit in DIGITS for digit in text])


def is_gain_text(text):
    parts = text.split("/")
    return len(parts) == 2 and all([is_count(part) for part in parts])


def gain_in(text):
    """The gain with this text; None for -."""
    if text == "-":
        return None
    up, down = text.split("/")
    return (int(up), int(down))


def bridges_in(line):
    """The bridges in this line, in which other words may stand as well."""
    if line == "-":
        return ()
    return tuple(line.split(" "))


def join_in(words):
    """The join with these words, in which wrong names may stand; None if it is not so written."""
    name, one, sign, other, there, back = words
    if sign != ">" or not all([gain == "-" or is_gain_text(gain) for gain in (there, back)]):
        return None
    return (name, one, other, gain_in(there), gain_in(back))


def seat_in(words):
    """The seat with these words, in which wrong names may stand; None if it is not so written."""
    name, _, bridge, mark = words
    if mark not in SEAT_MARKS:
        return None
    speaks, hears = SEAT_MARKS[mark]
    return (name, bridge, speaks, hears)


def room_in(words):
    """The room with these words, in which wrong names may stand; None if it is not so written."""
    name, _, members, air = words
    if not is_gain_text(air):
        return None
    return (name, tuple(members.split("+")), gain_in(air))


def comes_behind(row, rows):
    """Whether the name of the row comes behind those of the rows."""
    return rows == [] or rows[-1][0] < row[0]


class Draft:
    """A world as far as its lines are read.

    The methods tell whether there is such a line that can stand next; only
    then they take it in.
    """

    def __init__(self, bridges):
        self.bridges = bridges
        self.joins = []
        self.seats = []
        self.rooms = []

    def takes_join(self, join):
        if self.seats != [] or not is_join(join, self.bridges) or not comes_behind(join, self.joins):
            return False
        self.joins.append(join)
        return True

    def takes_seat(self, seat):
        if self.rooms != [] or not is_seat(seat, self.bridges) or not comes_behind(seat, self.seats):
            return False
        if seat[0] in [join[0] for join in self.joins]:
            return False
        self.seats.append(seat)
        return True

    def takes_room(self, room):
        if not is_room(room, [seat[0] for seat in self.seats]) or not comes_behind(room, self.rooms):
            return False
        if any([member in other[1] for member in room[1] for other in self.rooms]):
            return False
        self.rooms.append(room)
        return True

    def takes(self, line):
        words = line.split(" ")
        if len(words) == 6:
            return self.takes_join(join_in(words))
        if len(words) == 4 and words[1] == "@":
            return self.takes_seat(seat_in(words))
        if len(words) == 4 and words[1] == "=":
            return self.takes_room(room_in(words))
        return False

    def made(self):
        return (self.bridges, tuple(self.joins), tuple(self.seats), tuple(self.rooms))


def world_of(lines):
    """The world with these lines."""
    bridges = bridges_in(lines[0])
    if not are_bridges(bridges):
        raise BadLine(0)
    draft = Draft(bridges)
    for number, line in enumerate(lines):
        if number > 0 and not draft.takes(line):
            raise BadLine(number)
    return draft.made()


def world_in(text):
    """The world with this text."""
    return world_of(text.split("\n"))


def leg_text(leg):
    """The leg as a text."""
    return ".".join(leg)


def leg_in(world, text):
    """The leg of the world with this text."""
    leg = tuple(text.split("."))
    if leg not in legs(world):
        raise BadText()
    return leg


def way_text(way):
    """The way as a text."""
    start, row = way
    return ">".join([start] + [leg_text(leg) for leg in row])


def gain_text(gain):
    """The gain as a text, a whole one by its number alone."""
    up, down = gain
    if down == 1:
        return str(up)
    return f"{up}/{down}"
