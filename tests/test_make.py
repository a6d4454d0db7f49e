"""make: the whole answer for ordinary gardens, the document's edges and wrong inputs (K3, and K1 and K2)."""

import unittest
from itertools import product
from random import Random
from time import perf_counter

from gardenplans.plans import garden, judge, make, print_of, way
from tests.helper import (
    SIZES, Untouched, distances, draw, every_hedging, fewest_steps, inner_sides, neighbours, sheet, snake,
    some_hedges, tree,
)


def mended(wide, high, hedges):
    """The hedges of the garden mended, word by word as the document has it."""
    sides = list(enumerate(inner_sides(wide, high)))
    was = set(hedges)
    opened, planted = set(), set()
    for k, (one, other) in sides:
        if k in was and fewest_steps(wide, high, was - opened, one, other) is None:
            opened.add(k)
    for k, (one, other) in sides:
        if k not in was and fewest_steps(wide, high, was | planted | {k}, one, other) is not None:
            planted.add(k)
    return sorted(was - opened | planted)


def first_shortest(wide, high, hedges, begin, end):
    """The first shortest way: of all steps that lead nearer always the one by the earlier side."""
    steps = neighbours(wide, high, hedges)
    far = distances(steps, end)
    found = [begin]
    while found[-1] != end:
        here = found[-1]
        # The sides are 0 upper, 1 right, 2 lower, 3 left.
        beside = [other for other in (here - wide, here + 1, here + wide, here - 1) if other in steps[here]]
        found.append([other for other in beside if far[other] < far[here]][0])
    return found


def farthest(wide, high, hedges):
    """The first two squares that are farthest apart."""
    steps = neighbours(wide, high, hedges)
    pairs = []
    for one in steps:
        far = distances(steps, one)
        pairs += [(-far[other], one, other) for other in range(one + 1, wide * high)]
    return min(pairs)[1:]


def made(wide, high, hedges):
    """The drawing of the plan made of a garden."""
    whole = mended(wide, high, hedges)
    return draw(wide, high, whole, first_shortest(wide, high, whole, *farthest(wide, high, whole)))


class Ordinary(unittest.TestCase):
    def makes(self, lines, plan):
        self.assertEqual(make(sheet(*lines)), [0] + sheet(*plan))

    def test_a_perfect_garden_stays(self):
        self.makes(
            ("+-+-+-+", "|   | |", "+ +-+ +", "|     |", "+-+-+-+"),
            ("+-+-+-+", "|..A|B|", "+.+-+.+", "|.....|", "+-+-+-+"))

    def test_of_several_hedges_the_first_are_opened(self):
        self.makes(
            ("+-+-+", "| | |", "+-+-+", "| | |", "+-+-+"),
            ("+-+-+", "|..A|", "+.+-+", "|..B|", "+-+-+"))
        self.makes(
            ("+-+-+", "| | |", "+ + +", "| | |", "+-+-+"),
            ("+-+-+", "|...|", "+.+.+", "|A|B|", "+-+-+"))
        self.makes(
            ("+-+-+-+", "|     |", "+-+-+-+", "|     |", "+-+-+-+"),
            ("+-+-+-+", "|....A|", "+.+-+-+", "|....B|", "+-+-+-+"))

    def test_of_several_passages_the_first_are_planted(self):
        self.makes(
            ("+-+-+", "|   |", "+ + +", "|   |", "+-+-+"),
            ("+-+-+", "|A|B|", "+.+.+", "|...|", "+-+-+"))
        self.makes(
            ("+-+-+-+", "|     |", "+ +-+ +", "|     |", "+-+-+-+"),
            ("+-+-+-+", "|A|B..|", "+.+-+.+", "|.....|", "+-+-+-+"))

    def test_rooms_and_a_ring(self):
        self.makes(
            ("+-+-+-+", "|   | |", "+ + + +", "|   | |", "+-+-+-+"),
            ("+-+-+-+", "|A|...|", "+.+.+.+", "|...|B|", "+-+-+-+"))
        self.makes(
            ("+-+-+-+", "| |   |", "+-+ + +", "| |   |", "+-+-+-+"),
            ("+-+-+-+", "|A..|B|", "+-+.+.+", "|  ...|", "+-+-+-+"))

    def test_of_pairs_as_far_apart_the_first_counts(self):
        self.makes(
            ("+-+-+-+", "|   | |", "+-+ + +", "|     |", "+ + +-+", "| |   |", "+-+-+-+"),
            ("+-+-+-+", "|A..|B|", "+-+.+.+", "|  ...|", "+ + +-+", "| |   |", "+-+-+-+"))
        self.makes(
            ("+-+-+-+", "|     |", "+-+ +-+", "|     |", "+-+ +-+", "|     |", "+-+-+-+"),
            ("+-+-+-+", "|A..  |", "+-+.+-+", "|  .  |", "+-+.+-+", "|B..  |", "+-+-+-+"))

    def test_every_small_garden(self):
        for wide, high in ((1, 2), (2, 1), (1, 5), (5, 1), (2, 2), (3, 2), (2, 3)):
            for hedges in every_hedging(wide, high):
                self.assertEqual(make(draw(wide, high, hedges)), [0] + made(wide, high, hedges))

    def test_gardens_of_all_sizes(self):
        chance = Random("make")
        for wide, high in SIZES[1:]:
            hedges = some_hedges(chance, wide, high)
            self.assertEqual(make(draw(wide, high, hedges)), [0] + made(wide, high, hedges))

    def test_middle_gardens(self):
        chance = Random("middle")
        for wide, high in ((3, 3), (4, 3), (3, 4), (4, 4), (2, 8), (8, 2)):
            for turn in range(40):
                hedges = some_hedges(chance, wide, high)
                self.assertEqual(make(draw(wide, high, hedges)), [0] + made(wide, high, hedges))


class Edges(unittest.TestCase):
    def test_two_squares(self):
        for sign in " |":
            self.assertEqual(make(sheet("+-+-+", f"| {sign} |", "+-+-+")), [0] + sheet("+-+-+", "|A.B|", "+-+-+"))
        for sign in " -":
            self.assertEqual(
                make(sheet("+-+", "| |", f"+{sign}+", "| |", "+-+")),
                [0] + sheet("+-+", "|A|", "+.+", "|B|", "+-+"))

    def test_one_square(self):
        self.assertEqual(make(sheet("+-+", "| |", "+-+")), [-5])

    def test_one_row_and_one_column(self):
        for count in range(2, 11):
            for hedges in ([], range(count - 1), range(0, count - 1, 2)):
                for wide, high in ((count, 1), (1, count)):
                    plan = draw(wide, high, [], snake(count, 1))
                    self.assertEqual(make(draw(wide, high, hedges)), [0] + plan)

    def test_the_largest_with_every_hedge(self):
        left = [90 + 10 * y + x for y in range(9) for x in range(1, 10)]
        walked = list(range(9, -1, -1)) + list(range(10, 90, 10)) + list(range(90, 100))
        self.assertEqual(make(draw(10, 10, range(180))), [0] + draw(10, 10, left, walked))

    def test_the_largest_without_a_hedge(self):
        walked = list(range(0, 90, 10)) + list(range(90, 100)) + list(range(89, 0, -10))
        self.assertEqual(make(draw(10, 10, [])), [0] + draw(10, 10, range(81), walked))


class Refusals(unittest.TestCase):
    def test_too_many_bytes(self):
        for count in (463, 1000, 1023, 1024):
            self.assertEqual(make([43] * count), [-6])
        for count in (1025, 1026, 1500, 2000):
            self.assertEqual(make([43] * count), [-2])
        largest = draw(10, 10, [])
        self.assertEqual(make(largest + [32] * (1024 - 462)), [-6])
        self.assertEqual(make(largest + [32] * (1025 - 462)), [-2])
        self.assertEqual(make(draw(1, 127, [])), [-6])
        self.assertEqual(make(draw(1, 128, [])), [-2])

    def test_no_garden(self):
        self.assertEqual(make([]), [-6])
        for few in range(1, 12):
            self.assertEqual(make(draw(11, few, [])), [-6])
            self.assertEqual(make(draw(few, 11, [])), [-6])
        for lines in (
            ("+-+",),
            ("+", "|", "+"),
            ("+-+-+", "| |", "+-+-+"),
            ("+-+", "|   |", "+-+"),
            ("+-+-+", "|   |", "+ +-+"),
            ("+-+ +", "|   |", "+-+-+"),
            ("+-+-+", "    |", "+-+-+"),
        ):
            self.assertEqual(make(sheet(*lines)), [-6])

    def test_a_plan_is_no_garden(self):
        self.assertEqual(make(make(draw(3, 2, []))[1:]), [-6])
        for row in ("A.B", "A B", " . ", ".  ", "  B", ". ."):
            self.assertEqual(make(sheet("+-+-+", f"|{row}|", "+-+-+")), [-6])
        for sign in ".AB":
            self.assertEqual(make(sheet("+-+", f"|{sign}|", "+-+")), [-6])
        self.assertEqual(make(sheet("+-+", "| |", "+.+", "| |", "+-+")), [-6])

    def test_it_stops_too_soon_or_goes_on(self):
        for drawing in (draw(1, 1, []), draw(3, 2, []), draw(10, 10, [])):
            for count in range(len(drawing)):
                self.assertEqual(make(drawing[:count]), [-6])
            for byte in range(256):
                self.assertEqual(make(drawing + [byte]), [-6])

    def test_every_byte_at_every_place(self):
        for wide, high in ((1, 1), (2, 1), (1, 2), (2, 2)):
            gardens = {tuple(draw(wide, high, hedges)) for hedges in every_hedging(wide, high)}
            drawing = draw(wide, high, [])
            for place, byte in product(range(len(drawing)), range(256)):
                changed = drawing[:place] + [byte] + drawing[place + 1:]
                answer = make(changed)
                if tuple(changed) not in gardens:
                    self.assertEqual(answer, [-6])
                elif wide * high == 1:
                    self.assertEqual(answer, [-5])
                else:
                    self.assertEqual(answer[0], 0)

    def test_a_wrong_byte_at_every_place_of_the_largest(self):
        drawing = draw(10, 10, range(0, 180, 2))
        for place, byte in product(range(len(drawing)), b"\n.A\0"):
            if byte != drawing[place]:
                self.assertEqual(make(drawing[:place] + [byte] + drawing[place + 1:]), [-6])


class Mazes(unittest.TestCase):
    """K3: what's made is perfect, its way the only one, none longer; A and B are dead ends."""

    def a_maze(self, wide, high, hedges):
        whole = mended(wide, high, hedges)
        steps = neighbours(wide, high, whole)
        answer = make(draw(wide, high, hedges))
        self.assertEqual(answer[0], 0)
        plan = answer[1:]
        self.assertEqual(garden(plan), [0] + draw(wide, high, whole))
        walked = way(plan)[1:]
        self.assertEqual(way(plan)[0], 0)
        self.assertEqual(print_of(garden(plan)[1:], walked), answer)
        self.assertEqual(judge(plan), [0, 1, 1, 1, len(walked) - 1])
        longest = max(max(distances(steps, square).values()) for square in steps)
        self.assertEqual(len(walked) - 1, longest)
        self.assertEqual((len(steps[walked[0]]), len(steps[walked[-1]])), (1, 1))
        self.assertLess(walked[0], walked[-1])
        # A garden that's mended stays as it is if it's mended once more.
        self.assertEqual(make(garden(plan)[1:]), answer)

    def test_every_small_garden(self):
        for wide, high in ((2, 1), (1, 2), (2, 2), (3, 2), (2, 3)):
            for hedges in every_hedging(wide, high):
                self.a_maze(wide, high, hedges)

    def test_gardens_of_all_sizes(self):
        chance = Random("mazes")
        for wide, high in SIZES[1:]:
            self.a_maze(wide, high, some_hedges(chance, wide, high))

    def test_perfect_gardens_stay(self):
        for wide, high in SIZES[1:]:
            hedges = tree(f"perfect {wide} {high}", wide, high)
            drawing = draw(wide, high, hedges)
            self.assertEqual(garden(make(drawing)[1:]), [0] + drawing)

    def test_forests_and_gardens_in_one_room(self):
        chance = Random("halves")
        for wide, high in ((3, 3), (5, 4), (4, 7), (10, 3), (10, 10)):
            whole = tree(f"halves {wide} {high}", wide, high)
            more = sorted(set(whole) | set(some_hedges(chance, wide, high)))
            fewer = sorted(set(whole) & set(some_hedges(chance, wide, high)))
            self.a_maze(wide, high, more)
            self.a_maze(wide, high, fewer)


class NothingKept(unittest.TestCase):
    GARDENS = (
        draw(2, 1, []), draw(2, 1, [0]), draw(3, 3, [1, 4, 7]), draw(10, 10, []), draw(10, 10, range(180)),
        draw(1, 1, []), [], draw(3, 3, [])[:-1], [43] * 1024, [43] * 1025, draw(2, 1, [], [0, 1]),
    )

    def test_what_is_handed_in_stays(self):
        for drawing in self.GARDENS:
            handed = list(drawing)
            answer = make(handed)
            self.assertEqual(handed, drawing)
            self.assertIsNot(answer, handed)

    def test_what_is_handed_in_is_not_changed_for_a_while_either(self):
        for drawing in self.GARDENS:
            self.assertEqual(make(Untouched(drawing)), make(drawing))

    def test_the_same_answer_whenever_called(self):
        first = [make(drawing) for drawing in self.GARDENS]
        for turn in range(3):
            again = [make(drawing) for drawing in reversed(self.GARDENS)]
            self.assertEqual(again[::-1], first)

    def test_an_answer_changed_changes_no_later_one(self):
        for drawing in self.GARDENS:
            answer = make(drawing)
            kept = list(answer)
            answer.clear()
            self.assertEqual(make(drawing), kept)

    def test_answers_are_ints(self):
        for drawing in self.GARDENS:
            answer = make(drawing)
            self.assertIs(type(answer), list)
            self.assertEqual({type(number) for number in answer}, {int})


class Time(unittest.TestCase):
    def test_the_largest_gardens_dont_take_long(self):
        # The limit is far from tight: it only tells a search through all ways.
        begun = perf_counter()
        for turn in range(10):
            for hedges in ([], range(180), range(90), range(90, 180), tree("time", 10, 10)):
                make(draw(10, 10, hedges))
        self.assertLess(perf_counter() - begun, 30)


if __name__ == "__main__":
    unittest.main()
