"""The calls: each answers a list, 0 and what is told behind it, or a refusal."""

from gardenplans.drawings import squares_of
from gardenplans.rooms import is_perfect, mended
from gardenplans.sheets import fault_of, garden_on, is_garden, plan_drawing, way_on
from gardenplans.ways import is_only, is_plan_way, is_shortest, longest_way

TOLD = 0
TOO_LONG = -2
ONE_SQUARE = -5
NO_DRAWING = -6
NO_WAY = -9

MOST_BYTES = 1024


def garden_refusal(drawing):
    """Answer the refusal of a drawing that is no garden's; an empty list if it is one's."""
    if len(drawing) > MOST_BYTES:
        return [TOO_LONG]
    if not is_garden(drawing):
        return [NO_DRAWING]
    return []


def plan_refusal(drawing):
    """Answer the refusal of a drawing that is no plan's; an empty list if it is one's."""
    if len(drawing) > MOST_BYTES:
        return [TOO_LONG]
    fault = fault_of(drawing)
    if fault is not None:
        return [NO_DRAWING, fault]
    if len(way_on(drawing)) == 0:
        return [NO_WAY]
    return []


def print_of(garden, way):
    """Answer the drawing of the plan that the garden's drawing and the way's squares make."""
    refusal = garden_refusal(garden)
    if len(refusal) > 0:
        return refusal
    if not is_plan_way(garden, way):
        return [NO_WAY]
    return [TOLD] + plan_drawing(garden, way)


def garden(plan):
    """Answer the drawing of the plan's garden."""
    refusal = plan_refusal(plan)
    if len(refusal) > 0:
        return refusal
    return [TOLD] + garden_on(plan)


def way(plan):
    """Answer the squares of the plan's way, from A to B."""
    refusal = plan_refusal(plan)
    if len(refusal) > 0:
        return refusal
    return [TOLD] + way_on(plan)


def judge(plan):
    """Answer whether the plan's garden is perfect, its way a shortest, and the only one, and its steps."""
    refusal = plan_refusal(plan)
    if len(refusal) > 0:
        return refusal
    squares = way_on(plan)
    drawn = garden_on(plan)
    perfect = 1 if is_perfect(drawn) else 0
    shortest = 1 if is_shortest(drawn, squares) else 0
    only = 1 if is_only(plan, squares) else 0
    return [TOLD, perfect, shortest, only, len(squares) - 1]


def make(garden):
    """Answer the drawing of the plan made of the garden: mended, with its longest way."""
    refusal = garden_refusal(garden)
    if len(refusal) > 0:
        return refusal
    if squares_of(garden) == 1:
        return [ONE_SQUARE]
    drawn = mended(garden)
    return [TOLD] + plan_drawing(drawn, longest_way(drawn))
