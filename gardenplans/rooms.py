"""Rooms: squares that ways join, told by a number for each square, the same for those of one room."""

from gardenplans.drawings import BLANK, LEVEL_HEDGE, UPRIGHT_HEDGE, garden_drawing, sides_with, squares_of


def joined(rooms, side):
    """Tell the rooms as they are once the two squares of that side are of one."""
    one = rooms[side[0]]
    other = rooms[side[1]]
    return [one if room == other else room for room in rooms]


def rooms_by(sides, squares):
    """Tell the rooms of so many squares with passages at just these inner sides."""
    rooms = list(range(squares))
    for side in sides:
        rooms = joined(rooms, side)
    return rooms


def is_perfect(drawing):
    """Tell whether there is just one way between any two squares of the garden that comes nowhere twice."""
    squares = squares_of(drawing)
    passages = sides_with(drawing, BLANK)
    # So many passages join all squares only if none of them closes a ring.
    return len(passages) == squares - 1 and len(set(rooms_by(passages, squares))) == 1


def sides_that_join(sides, squares):
    """Go through the inner sides and tell those whose two squares the ones before leave in two rooms."""
    rooms = list(range(squares))
    joining = []
    for side in sides:
        if rooms[side[0]] != rooms[side[1]]:
            joining.append(side)
            rooms = joined(rooms, side)
    return joining


def mended(drawing):
    """Draw the garden mended: all squares in one room, and no ring."""
    passages = sides_with(drawing, BLANK)
    hedges = sides_with(drawing, UPRIGHT_HEDGE) + sides_with(drawing, LEVEL_HEDGE)
    # Going through the passages rising, one is planted if it lies on a ring. Those before it are planted
    # then, or lie on no ring: so just the passages behind it can close one, and they come before it here.
    order = list(reversed(passages)) + hedges
    return garden_drawing(drawing, sides_that_join(order, squares_of(drawing)))
