"""The calls: each answers a list, 0 and what is told behind it, or a refusal."""

from gardenplans.drawings import BLANK, are_beside, high_of, is_garden, place_of, side_between, wide_of

TOLD = 0
TOO_LONG = -2
NO_GARDEN = -6
NO_WAY = -9

MOST_BYTES = 1024

POINT = 46
BEGINNING = 65
END = 66


def all_once(squares, count):
    """Tell whether each square is one of the first so many, and none stands twice."""
    met = {}
    for square in squares:
        if square >= count or square in met:
            return False
        met[square] = True
    return True


def is_step(drawing, one, other, wide):
    """Tell whether the two squares are beside one another, with a passage between."""
    return are_beside(one, other, wide) and drawing[side_between(one, other, wide)] == BLANK


def is_plan_way(drawing, squares):
    """Tell whether the squares are a way in the garden of two and more that comes nowhere twice."""
    wide = wide_of(drawing)
    # Every square must be known to lie in the garden before a side beside it is looked up.
    if len(squares) < 2 or not all_once(squares, wide * high_of(drawing, wide)):
        return False
    for k in range(1, len(squares)):
        if not is_step(drawing, squares[k - 1], squares[k], wide):
            return False
    return True


def plan_drawing(drawing, squares):
    """Draw the plan of a garden's drawing and a way in it, on a sheet of its own."""
    wide = wide_of(drawing)
    drawn = list(drawing)
    for square in squares:
        drawn[place_of(square, wide)] = POINT
    for k in range(1, len(squares)):
        drawn[side_between(squares[k - 1], squares[k], wide)] = POINT
    drawn[place_of(squares[0], wide)] = BEGINNING
    drawn[place_of(squares[-1], wide)] = END
    return drawn


def print_of(garden, way):
    """Answer the drawing of the plan that the garden's drawing and the way's squares make."""
    if len(garden) > MOST_BYTES:
        return [TOO_LONG]
    if not is_garden(garden):
        return [NO_GARDEN]
    if not is_plan_way(garden, way):
        return [NO_WAY]
    return [TOLD] + plan_drawing(garden, way)
