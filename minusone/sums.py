"""How much comes of rows of legs in all, by exact fractions.

The sum of a leg is what is added for the leg alone, and, for each leg that
follows it, the gain of that leg multiplied with the sum of that leg. Each sum
is divided by the down of its leg's gain in here, so that whole numbers do:
down * sum = what is added + the up * the sum of each leg that follows.
"""

from math import gcd

from minusone.ratio import added, in_least_terms, multiplied


def own_line(net, leg, legs, alone):
    """A line (own, rest): the sum of the leg, own times, is the rest.

    rest gives for each leg how often its sum is in it, and for None what is
    added. Of the legs that follow only the given ones count.
    """
    rest = {other: net.gains[other][0] for other in net.after[leg] if other in legs}
    rest[None] = alone
    return (net.gains[leg][1], rest)


def put_in(line, leg, other):
    """The line, with the other line in place of the sum of this leg."""
    own, rest = line
    inner_own, inner = other
    common = gcd(inner_own, rest[leg])
    scale = inner_own // common
    many = rest[leg] // common
    new = {part: rest[part] * scale for part in rest if part != leg}
    for part in inner:
        new[part] = new.get(part, 0) + inner[part] * many
    return (own * scale, new)


def shortened(line):
    """The line, with all of its numbers divided by what they have in common."""
    own, rest = line
    common = own
    for part in rest:
        common = gcd(common, rest[part])
    return (own // common, {part: rest[part] // common for part in rest})


def solved_lines(net, legs, alone):
    """For each leg a line in which neither this leg nor one ahead of it stands.

    It goes on as long as the legs are calm together: a leg is calm with
    those ahead exactly if less than all of it comes back to it by them.
    alone tells what is added for a leg, where that is not 0.
    """
    lines = {}
    kept = {leg: True for leg in legs}
    for leg in legs:
        own, rest = line_behind(own_line(net, leg, kept, alone.get(leg, 0)), lines)
        own -= rest.pop(leg, 0)
        if own <= 0:
            return lines
        lines[leg] = shortened((own, rest))
    return lines


def line_behind(line, lines):
    """The line, with each of the lines put in, in their order."""
    for leg in lines:
        if leg in line[1]:
            line = put_in(line, leg, lines[leg])
    return line


def sums_of(net, lines):
    """The sums of the legs with these lines, as fractions."""
    parts = {}
    for leg in reversed(list(lines)):
        own, rest = lines[leg]
        total = (rest[None], 1)
        for other in rest:
            if other is not None:
                total = added(total, multiplied((rest[other], 1), parts[other]))
        parts[leg] = in_least_terms(total[0], total[1] * own)
    return {leg: multiplied(parts[leg], (net.gains[leg][1], 1)) for leg in parts}


def calm_many(net, legs):
    """How many of the legs, from the first on, are calm together."""
    return len(solved_lines(net, legs, {}))


def howling_legs(net):
    """Legs that are not calm together, but are without any one of them; none if all of the net are calm."""
    sure = []
    rest = net.legs
    while True:
        row = sure + rest
        many = calm_many(net, row)
        if many == len(row):
            return []
        if many < len(sure):
            return sure
        # Without this leg those ahead of it are calm, so it must be one of them.
        rest = row[len(sure):many]
        sure = sure + [row[many]]
