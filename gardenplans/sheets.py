"""Sheets: where a drawing that is none is at fault, and the garden and the way that one shows."""

from gardenplans.drawings import BEGINNING, BLANK, CORNER, END, LEVEL_HEDGE, LINE_FEED, MOST_SQUARES_ALONG
from gardenplans.drawings import POINT, UPRIGHT_HEDGE, beyond_sides, high_of, line_length, place_of
from gardenplans.drawings import side_between, sides_with, squares_of, wide_of


def first_line_signs(column):
    """Tell with which bytes a sheet's first line may go on in that column."""
    if column % 2 == 0:
        return (CORNER,)
    if column == 1:
        return (LEVEL_HEDGE,)
    if column == 2 * MOST_SQUARES_ALONG + 1:
        return (LINE_FEED,)
    return (LEVEL_HEDGE, LINE_FEED)


def later_line_signs(row, column, wide):
    """Tell with which bytes a sheet of that width may go on in that line, not the first, and column."""
    if row > 2 * MOST_SQUARES_ALONG:
        return ()
    if column == 2 * wide + 1:
        return (LINE_FEED,)
    if row % 2 == 0 and column % 2 == 0:
        return (CORNER,)
    if row % 2 == 1 and column % 2 == 1:
        return (BLANK, POINT, BEGINNING, END)
    hedge = LEVEL_HEDGE if row % 2 == 0 else UPRIGHT_HEDGE
    # Any other level line may still be an inner one, whatever comes behind it.
    if row == 2 * MOST_SQUARES_ALONG or column in (0, 2 * wide):
        return (hedge,)
    return (hedge, BLANK, POINT)


def signs_at(place, wide):
    """Tell with which bytes a sheet of that width may go on at that place."""
    length = line_length(wide)
    # A drawing without a width is at fault in its first line, so no other is come to.
    if wide == 0 or place < length:
        return first_line_signs(place)
    return later_line_signs(place // length, place % length, wide)


def may_end(drawing, wide):
    """Tell whether a drawing that could go on as a sheet of that width may end where it does."""
    if wide == 0 or high_of(drawing, wide) == 0:
        return False
    length = line_length(wide)
    # The last line is the border, as the first one is.
    return drawing[-length:] == drawing[:length]


def fault_of(drawing):
    """Tell the first place where no sheet goes on; None if the drawing is a sheet."""
    wide = wide_of(drawing)
    for place, sign in enumerate(drawing):
        if sign not in signs_at(place, wide):
            return place
    if not may_end(drawing, wide):
        return len(drawing)
    return None


def is_way_sign(sign):
    """Tell whether the byte stands for a part of a plan's way."""
    return sign in (POINT, BEGINNING, END)


def is_garden(drawing):
    """Tell whether the bytes are the drawing of a garden: a sheet that shows nothing of a way."""
    return fault_of(drawing) is None and not any([is_way_sign(sign) for sign in drawing])


def plan_drawing(drawing, squares):
    """Draw the plan of a garden's drawing and a way in it, on a sheet of its own."""
    wide = wide_of(drawing)
    drawn = list(drawing)
    for square in squares:
        drawn[place_of(square, wide)] = POINT
    for k in range(1, len(squares)):
        drawn[side_between(squares[k - 1], squares[k], wide)] = POINT
    drawn[place_of(squares[0], wide)] = BEGINNING
    drawn[place_of(squares[-1], wide)] = END
    return drawn


def garden_on(sheet):
    """Draw the garden that the sheet shows, without any way."""
    return [BLANK if is_way_sign(sign) else sign for sign in sheet]


def walk_from_beginning(sheet):
    """Tell the squares that the points at sides lead to from A, one after another, none twice."""
    wide = wide_of(sheet)
    squares = squares_of(sheet)
    beyond = beyond_sides(sides_with(sheet, POINT), squares)
    ahead = [square for square in range(squares) if sheet[place_of(square, wide)] == BEGINNING]
    walked = []
    # On a plan's drawing there is never more than one square ahead; elsewhere any will do.
    while ahead:
        walked.append(ahead[0])
        ahead = [square for square in beyond[ahead[0]] if square not in walked]
    return walked


def way_on(sheet):
    """Tell the squares of the way that the sheet shows; none if it is no plan's drawing."""
    squares = walk_from_beginning(sheet)
    # A way has but one drawing, so whatever the walk left out or took amiss shows here.
    if len(squares) < 2 or plan_drawing(garden_on(sheet), squares) != sheet:
        return []
    return squares
