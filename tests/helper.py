"""Gardens, ways and plans for the tests, built by the document's words and not by the program."""

from itertools import product


def sheet(*lines):
    """The bytes of a drawing given line by line."""
    return list("".join(line + "\n" for line in lines).encode("ascii"))


def inner_sides(wide, high):
    """The pairs of squares at each inner side, in the order of the sides' numbers."""
    upright = [(y * wide + x, y * wide + x + 1) for y in range(high) for x in range(wide - 1)]
    level = [(y * wide + x, (y + 1) * wide + x) for y in range(high - 1) for x in range(wide)]
    return upright + level


def draw(wide, high, hedges, way=()):
    """The drawing of a garden with hedges at these inner sides, or of a plan if there's a way."""
    open_sides = {frozenset(pair) for k, pair in enumerate(inner_sides(wide, high)) if k not in hedges}
    walked = {frozenset(pair) for pair in zip(way, way[1:])}
    signs = dict.fromkeys(way, ".")
    if way:
        signs[way[0]] = "A"
        signs[way[-1]] = "B"

    def side(one, other, hedge):
        pair = frozenset((one, other))
        if pair in walked:
            return "."
        return " " if pair in open_sides else hedge

    lines = ["+" + "-+" * wide]
    for y in range(high):
        squares = [y * wide + x for x in range(wide)]
        line = "|"
        for square in squares:
            line += signs.get(square, " ")
            line += "|" if square == squares[-1] else side(square, square + 1, "|")
        lines.append(line)
        lower = [side(square, square + wide, "-") if y < high - 1 else "-" for square in squares]
        lines.append("+" + "".join(sign + "+" for sign in lower))
    return sheet(*lines)


def every_hedging(wide, high):
    """Every choice of inner sides at which hedges stand."""
    sides = len(inner_sides(wide, high))
    for choice in product((False, True), repeat=sides):
        yield [k for k in range(sides) if choice[k]]


def every_way(wide, high, hedges):
    """Every way of two squares and more that comes nowhere twice."""
    steps = {square: [] for square in range(wide * high)}
    for k, (one, other) in enumerate(inner_sides(wide, high)):
        if k not in hedges:
            steps[one].append(other)
            steps[other].append(one)
    begun = [[square] for square in steps]
    while begun:
        way = begun.pop()
        if len(way) > 1:
            yield way
        begun.extend(way + [square] for square in steps[way[-1]] if square not in way)


def snake(wide, high):
    """A way through every square, row by row, there and back."""
    way = []
    for y in range(high):
        row = list(range(y * wide, (y + 1) * wide))
        way += row if y % 2 == 0 else row[::-1]
    return way


class Untouched(list):
    """A list that fails the test if anything tries to change it, for a while either."""

    def refuse(self, *args, **kwargs):
        raise AssertionError("what was handed in is changed")

    append = clear = extend = insert = pop = remove = reverse = sort = refuse
    __setitem__ = __delitem__ = __iadd__ = __imul__ = refuse
