"""Gardens, ways and plans for the tests, built by the document's words and not by the program."""

from functools import lru_cache
from itertools import product
from random import Random

SIZES = list(product(range(1, 11), repeat=2))


def sheet(*lines):
    """The bytes of a drawing given line by line."""
    return list("".join(line + "\n" for line in lines).encode("ascii"))


def inner_sides(wide, high):
    """The pairs of squares at each inner side, in the order of the sides' numbers."""
    upright = [(y * wide + x, y * wide + x + 1) for y in range(high) for x in range(wide - 1)]
    level = [(y * wide + x, (y + 1) * wide + x) for y in range(high - 1) for x in range(wide)]
    return upright + level


def draw(wide, high, hedges, way=()):
    """The drawing of a garden with hedges at these inner sides, or of a plan if there's a way."""
    open_sides = {frozenset(pair) for k, pair in enumerate(inner_sides(wide, high)) if k not in hedges}
    walked = {frozenset(pair) for pair in zip(way, way[1:])}
    signs = dict.fromkeys(way, ".")
    if way:
        signs[way[0]] = "A"
        signs[way[-1]] = "B"

    def side(one, other, hedge):
        pair = frozenset((one, other))
        if pair in walked:
            return "."
        return " " if pair in open_sides else hedge

    lines = ["+" + "-+" * wide]
    for y in range(high):
        squares = [y * wide + x for x in range(wide)]
        line = "|"
        for square in squares:
            line += signs.get(square, " ")
            line += "|" if square == squares[-1] else side(square, square + 1, "|")
        lines.append(line)
        lower = [side(square, square + wide, "-") if y < high - 1 else "-" for square in squares]
        lines.append("+" + "".join(sign + "+" for sign in lower))
    return sheet(*lines)


def every_hedging(wide, high):
    """Every choice of inner sides at which hedges stand."""
    sides = len(inner_sides(wide, high))
    for choice in product((False, True), repeat=sides):
        yield [k for k in range(sides) if choice[k]]


def neighbours(wide, high, hedges):
    """The squares that passages lead to, of each square."""
    steps = {square: [] for square in range(wide * high)}
    for k, (one, other) in enumerate(inner_sides(wide, high)):
        if k not in hedges:
            steps[one].append(other)
            steps[other].append(one)
    return steps


def every_way(wide, high, hedges):
    """Every way of two squares and more that comes nowhere twice."""
    steps = neighbours(wide, high, hedges)
    begun = [[square] for square in steps]
    while begun:
        way = begun.pop()
        if len(way) > 1:
            yield way
        begun.extend(way + [square] for square in steps[way[-1]] if square not in way)


def every_plan(wide, high):
    """Every plan of that size, as its hedges and its way."""
    for hedges in every_hedging(wide, high):
        for way in every_way(wide, high, hedges):
            yield hedges, way


def some_hedges(chance, wide, high):
    """Hedges at few or many inner sides, by a source that gives the same ones each time."""
    part = chance.random()
    return [k for k in range(len(inner_sides(wide, high))) if chance.random() < part]


def some_way(chance, wide, high, hedges):
    """A way that goes on by chance as long as it can or likes; None if it can't begin where it would."""
    steps = neighbours(wide, high, hedges)
    way = [chance.randrange(wide * high)]
    length = chance.randint(2, wide * high + 1)
    while len(way) < length:
        ahead = [square for square in steps[way[-1]] if square not in way]
        if not ahead:
            break
        way.append(chance.choice(ahead))
    return way if len(way) > 1 else None


def some_plans(seed, rounds, sizes=SIZES):
    """Plans by chance of each of these sizes, the same ones each time."""
    chance = Random(seed)
    for turn in range(rounds):
        for wide, high in sizes:
            hedges = some_hedges(chance, wide, high)
            way = some_way(chance, wide, high, hedges)
            if way:
                yield wide, high, hedges, way


@lru_cache(maxsize=None)
def signs_of_sheet(wide, high):
    """Which signs may stand at each place of a sheet of that size."""
    border = [b"+"] + [b"-", b"+"] * wide + [b"\n"]
    level = [b"+"] + [b"- .", b"+"] * wide + [b"\n"]
    upright = [b"|"] + [b" .AB", b"| ."] * (wide - 1) + [b" .AB", b"|", b"\n"]
    return border + (upright + level) * (high - 1) + upright + border


def agreeing(drawing, signs):
    """How many bytes from the beginning stand where they may."""
    for place, (byte, fitting) in enumerate(zip(drawing, signs)):
        if byte not in fitting:
            return place
    return min(len(drawing), len(signs))


def fault(drawing):
    """The place up to which some sheet goes along with the drawing; None if the drawing is one."""
    places = []
    for wide, high in SIZES:
        signs = signs_of_sheet(wide, high)
        places.append(agreeing(drawing, signs))
        if places[-1] == len(drawing) == len(signs):
            return None
    return max(places)


def rooms(wide, high, hedges):
    """The rooms of a garden, each a set of squares, found by walking from square to square."""
    steps = neighbours(wide, high, hedges)
    found = []
    for begin in steps:
        if any(begin in room for room in found):
            continue
        room, ahead = {begin}, [begin]
        while ahead:
            fresh = [square for square in steps[ahead.pop()] if square not in room]
            room.update(fresh)
            ahead.extend(fresh)
        found.append(room)
    return found


def without_ring(wide, high, hedges):
    """Whether no passage leads back to where ways had already come from elsewhere."""
    passages = len(inner_sides(wide, high)) - len(set(hedges))
    return passages == wide * high - len(rooms(wide, high, hedges))


def distances(steps, begin):
    """How many steps off each square lies that ways lead to, given the squares that passages lead to."""
    far, edge = {begin: 0}, [begin]
    while edge:
        edge = [(square, other) for square in edge for other in steps[square] if other not in far]
        far.update((other, far[square] + 1) for square, other in edge)
        edge = sorted({other for square, other in edge})
    return far


def fewest_steps(wide, high, hedges, begin, end):
    """How many steps the nearest way from one square to another has; None if there is no way."""
    return distances(neighbours(wide, high, hedges), begin).get(end)


def tree(seed, wide, high):
    """The hedges of a perfect garden that chance chose."""
    chance = Random(seed)
    sides = list(enumerate(inner_sides(wide, high)))
    chance.shuffle(sides)
    room = list(range(wide * high))
    hedges = []
    for k, (one, other) in sides:
        if room[one] == room[other]:
            hedges.append(k)
        else:
            room = [room[one] if number == room[other] else number for number in room]
    return sorted(hedges)


def snake(wide, high):
    """A way through every square, row by row, there and back."""
    way = []
    for y in range(high):
        row = list(range(y * wide, (y + 1) * wide))
        way += row if y % 2 == 0 else row[::-1]
    return way


class Untouched(list):
    """A list that fails the test if anything tries to change it, for a while either."""

    def refuse(self, *args, **kwargs):
        raise AssertionError("what was handed in is changed")

    append = clear = extend = insert = pop = remove = reverse = sort = refuse
    __setitem__ = __delitem__ = __iadd__ = __imul__ = refuse
