"""Ways in a garden."""

from gardenplans.drawings import BLANK, beyond_sides, sides_with, squares_of


def all_once(squares, count):
    """Tell whether each square is one of the first so many, and none stands twice."""
    met = {}
    for square in squares:
        if square >= count or square in met:
            return False
        met[square] = True
    return True


def beyond_passages(drawing):
    """Tell for each square of a garden which ones lie beyond its passages."""
    return beyond_sides(sides_with(drawing, BLANK), squares_of(drawing))


def is_plan_way(drawing, squares):
    """Tell whether the squares are a way in the garden of two and more that comes nowhere twice."""
    beyond = beyond_passages(drawing)
    # Every square must be known to lie in the garden before what is beyond its passages is looked up.
    if len(squares) < 2 or not all_once(squares, len(beyond)):
        return False
    for k in range(1, len(squares)):
        if squares[k] not in beyond[squares[k - 1]]:
            return False
    return True
