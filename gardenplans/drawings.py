"""Drawings of gardens: rows of bytes, and what stands where in them."""

LINE_FEED = 10
BLANK = 32
CORNER = 43
LEVEL_HEDGE = 45
UPRIGHT_HEDGE = 124
MOST_SQUARES_ALONG = 10


def squares_along(signs):
    """Tell how many squares so many signs span from border to border; 0 if no garden has so many."""
    if signs % 2 == 0 or signs > 2 * MOST_SQUARES_ALONG + 1:
        return 0
    return signs // 2


def line_length(wide):
    """Tell how many bytes a line has, its line feed among them."""
    return 2 * wide + 2


def wide_of(drawing):
    """Tell how many squares wide the drawing is by its first line; 0 if no garden has such a line."""
    if LINE_FEED not in drawing:
        return 0
    return squares_along(drawing.index(LINE_FEED))


def high_of(drawing, wide):
    """Tell how many squares high a drawing of that width is; 0 if no garden has so many bytes."""
    if len(drawing) % line_length(wide) != 0:
        return 0
    return squares_along(len(drawing) // line_length(wide))


def signs_at(row, column, wide, high):
    """Tell which bytes may stand in that line and column of a garden's drawing."""
    if column == 2 * wide + 1:
        return (LINE_FEED,)
    if row % 2 == 0 and column % 2 == 0:
        return (CORNER,)
    if row % 2 == 1 and column % 2 == 1:
        return (BLANK,)
    hedge = LEVEL_HEDGE if row % 2 == 0 else UPRIGHT_HEDGE
    if row in (0, 2 * high) or column in (0, 2 * wide):
        return (hedge,)
    return (hedge, BLANK)


def is_garden(drawing):
    """Tell whether the bytes are the drawing of a garden."""
    wide = wide_of(drawing)
    # Without a width there is no line length to go by.
    if wide == 0:
        return False
    high = high_of(drawing, wide)
    if high == 0:
        return False
    length = line_length(wide)
    for place, sign in enumerate(drawing):
        if sign not in signs_at(place // length, place % length, wide, high):
            return False
    return True


def place_of(square, wide):
    """Tell at which place of a drawing the square's sign stands."""
    row = 2 * (square // wide) + 1
    column = 2 * (square % wide) + 1
    return row * line_length(wide) + column


def are_beside(one, other, wide):
    """Tell whether the two squares have a side in common."""
    across = abs(one % wide - other % wide)
    down = abs(one // wide - other // wide)
    return across + down == 1


def side_between(one, other, wide):
    """Tell at which place of a drawing the side between two squares beside one another stands."""
    # The side's sign lies midway between the squares' signs, in its line as in its column.
    return (place_of(one, wide) + place_of(other, wide)) // 2
