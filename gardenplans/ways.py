"""Ways in a garden."""

from gardenplans.drawings import BLANK, beyond_sides, sides_with, squares_of
from gardenplans.rooms import rooms_by


def all_once(squares, count):
    """Tell whether each square is one of the first so many, and none stands twice."""
    met = {}
    for square in squares:
        if square >= count or square in met:
            return False
        met[square] = True
    return True


def beyond_passages(drawing):
    """Tell for each square of a garden which ones lie beyond its passages."""
    return beyond_sides(sides_with(drawing, BLANK), squares_of(drawing))


def is_plan_way(drawing, squares):
    """Tell whether the squares are a way in the garden of two and more that comes nowhere twice."""
    beyond = beyond_passages(drawing)
    # Every square must be known to lie in the garden before what is beyond its passages is looked up.
    if len(squares) < 2 or not all_once(squares, len(beyond)):
        return False
    for k in range(1, len(squares)):
        if squares[k] not in beyond[squares[k - 1]]:
            return False
    return True


def shortest_ways(beyond, begin):
    """Tell for each square that ways lead to from the first one a way there with the fewest squares."""
    ways = {begin: [begin]}
    reached = [begin]
    while len(reached) > 0:
        ahead = []
        for square in reached:
            for other in beyond[square]:
                if other not in ways:
                    ways[other] = ways[square] + [other]
                    ahead.append(other)
        reached = ahead
    return ways


def is_shortest(drawing, squares):
    """Tell whether no way in the garden between the ends of that one has fewer squares."""
    ways = shortest_ways(beyond_passages(drawing), squares[0])
    return len(squares) == len(ways[squares[-1]])


def is_only(plan, squares):
    """Tell whether no other way between the ends of the plan's way comes nowhere twice."""
    # Another one would leave the way somewhere and come back to it elsewhere, by passages that the
    # way doesn't take: on the plan's drawing, those that are still blank.
    rooms = rooms_by(sides_with(plan, BLANK), squares_of(plan))
    return len(set([rooms[square] for square in squares])) == len(squares)


def longest_way(drawing):
    """Tell the way between the first two squares that are farthest apart in a perfect garden."""
    beyond = beyond_passages(drawing)
    longest = []
    for begin in range(len(beyond)):
        # Where there is but one way between two squares, it is the first shortest one.
        ways = shortest_ways(beyond, begin)
        for end in range(begin + 1, len(beyond)):
            if len(ways[end]) > len(longest):
                longest = ways[end]
    return longest
