"""Drawings: rows of bytes, how large a garden they show, and what stands where in them."""

LINE_FEED = 10
BLANK = 32
CORNER = 43
LEVEL_HEDGE = 45
POINT = 46
BEGINNING = 65
END = 66
UPRIGHT_HEDGE = 124
MOST_SQUARES_ALONG = 10


def squares_along(signs):
    """Tell how many squares so many signs span from border to border; 0 if no garden has so many."""
    if signs % 2 == 0 or signs > 2 * MOST_SQUARES_ALONG + 1:
        return 0
    return signs // 2


def line_length(wide):
    """Tell how many bytes a line has, its line feed among them."""
    return 2 * wide + 2


def wide_of(drawing):
    """Tell how many squares wide the drawing is by its first line; 0 if no garden has such a line."""
    if LINE_FEED not in drawing:
        return 0
    return squares_along(drawing.index(LINE_FEED))


def high_of(drawing, wide):
    """Tell how many squares high a drawing of that width is; 0 if no garden has so many bytes."""
    if len(drawing) % line_length(wide) != 0:
        return 0
    return squares_along(len(drawing) // line_length(wide))


def squares_of(drawing):
    """Tell how many squares a sheet has."""
    wide = wide_of(drawing)
    return wide * high_of(drawing, wide)


def place_of(square, wide):
    """Tell at which place of a drawing the square's sign stands."""
    row = 2 * (square // wide) + 1
    column = 2 * (square % wide) + 1
    return row * line_length(wide) + column


def side_between(one, other, wide):
    """Tell at which place of a drawing the side between two squares beside one another stands."""
    # The side's sign lies midway between the squares' signs, in its line as in its column.
    return (place_of(one, wide) + place_of(other, wide)) // 2


def inner_sides(drawing):
    """Tell a sheet's inner sides in the order of their numbers, each by its two squares."""
    wide = wide_of(drawing)
    squares = squares_of(drawing)
    upright = [(square, square + 1) for square in range(squares) if square % wide < wide - 1]
    level = [(square, square + wide) for square in range(squares - wide)]
    return upright + level


def sides_with(drawing, sign):
    """Tell the inner sides of a sheet at which that sign stands."""
    wide = wide_of(drawing)
    return [side for side in inner_sides(drawing) if drawing[side_between(side[0], side[1], wide)] == sign]


def beyond_sides(sides, squares):
    """Tell for each of so many squares which ones lie beyond those of its sides that are named."""
    beyond = [[] for square in range(squares)]
    for side in sides:
        beyond[side[0]].append(side[1])
        beyond[side[1]].append(side[0])
    return beyond


def garden_drawing(drawing, passages):
    """Draw a garden of the drawing's size with passages at just these inner sides."""
    wide = wide_of(drawing)
    drawn = list(drawing)
    for side in inner_sides(drawing):
        in_a_row = side[0] // wide == side[1] // wide
        hedge = UPRIGHT_HEDGE if in_a_row else LEVEL_HEDGE
        drawn[side_between(side[0], side[1], wide)] = BLANK if side in passages else hedge
    return drawn
