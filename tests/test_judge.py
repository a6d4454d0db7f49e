"""judge: the whole answer for ordinary plans and the document's edges (K1, K2)."""

import unittest
from random import Random
from time import perf_counter

from gardenplans.plans import judge
from tests.helper import (
    SIZES, draw, every_hedging, every_way, fewest_steps, inner_sides, rooms, sheet, snake, some_hedges, some_plans,
    some_way, tree, without_ring,
)


def by_all_ways(wide, high, hedges):
    """Each way of a small garden with what judge should tell of it, found by going through all ways."""
    between = {}
    for way in every_way(wide, high, hedges):
        between.setdefault((way[0], way[-1]), []).append(way)
    squares = wide * high
    perfect = len(between) == squares * (squares - 1) and all(len(ways) == 1 for ways in between.values())
    for ways in between.values():
        fewest = min(map(len, ways))
        for way in ways:
            yield way, [0, int(perfect), int(len(way) == fewest), int(len(ways) == 1), len(way) - 1]


def by_planting(wide, high, hedges, way):
    """What judge should tell of a plan; its way is the only one if any hedge planted on it parts A from B."""
    sides = [frozenset(pair) for pair in inner_sides(wide, high)]
    perfect = len(rooms(wide, high, hedges)) == 1 and without_ring(wide, high, hedges)
    shortest = fewest_steps(wide, high, hedges, way[0], way[-1]) == len(way) - 1
    only = True
    for pair in zip(way, way[1:]):
        planted = list(hedges) + [sides.index(frozenset(pair))]
        if fewest_steps(wide, high, planted, way[0], way[-1]) is not None:
            only = False
    return [0, int(perfect), int(shortest), int(only), len(way) - 1]


class Ordinary(unittest.TestCase):
    def judged(self, answer, *lines):
        self.assertEqual(judge(sheet(*lines)), [0] + answer)

    def test_a_perfect_garden(self):
        self.judged(
            [1, 1, 1, 12],
            "+-+-+-+-+-+",
            "|A|.....|B|",
            "+.+.+-+.+.+",
            "|...|...|.|",
            "+-+ +.+-+.+",
            "|   |.....|",
            "+-+-+-+-+-+",
        )

    def test_round_a_ring_by_the_shorter_side(self):
        self.judged([0, 1, 0, 2], "+-+-+-+", "|A...B|", "+ +-+ +", "|     |", "+-+-+-+")

    def test_round_a_ring_by_the_longer_side(self):
        self.judged([0, 0, 0, 4], "+-+-+-+", "|A   B|", "+.+-+.+", "|.....|", "+-+-+-+")

    def test_round_a_ring_by_one_of_two_sides_as_long(self):
        self.judged([0, 1, 0, 3], "+-+-+-+", "|A....|", "+ +-+.+", "|    B|", "+-+-+-+")
        self.judged([0, 1, 0, 3], "+-+-+-+", "|A    |", "+.+-+ +", "|....B|", "+-+-+-+")

    def test_a_part_of_the_way_along_a_ring(self):
        self.judged([0, 1, 0, 4], "+-+-+-+-+-+", "|A.......B|", "+-+ + +-+-+", "| |   | | |", "+-+-+-+-+-+")
        self.judged([0, 0, 0, 6], "+-+-+-+-+-+", "|A.. ....B|", "+-+.+.+-+-+", "| |...| | |", "+-+-+-+-+-+")

    def test_a_ring_that_the_way_doesnt_touch(self):
        self.judged([0, 1, 1, 1], "+-+-+-+-+-+", "|A.B      |", "+-+-+-+ + +", "|     |   |", "+-+-+-+-+-+")
        self.judged([0, 1, 1, 1], "+-+-+-+-+-+", "|A.B      |", "+ +-+-+ + +", "|     |   |", "+-+-+-+-+-+")
        self.judged([0, 1, 1, 1], "+-+-+-+-+-+", "|A.B|     |", "+ +-+-+ + +", "|     |   |", "+-+-+-+-+-+")

    def test_a_ring_that_the_way_touches_in_one_square(self):
        self.judged([0, 1, 1, 2], "+-+-+-+-+-+", "|  A...B  |", "+ +-+-+ + +", "|     |   |", "+-+-+-+-+-+")
        self.judged([0, 1, 1, 2], "+-+-+-+", "|  B| |", "+-+.+-+", "|A..  |", "+-+ + +", "| |   |", "+-+-+-+")
        self.judged([0, 1, 1, 2], "+-+-+-+", "|  B  |", "+-+.+-+", "|A..  |", "+ + + +", "| |   |", "+-+-+-+")

    def test_several_rooms(self):
        self.judged([0, 1, 1, 2], "+-+-+-+", "|A...B|", "+-+-+-+", "|     |", "+-+-+-+")
        self.judged([0, 1, 1, 1], "+-+-+-+", "|A.B| |", "+-+-+-+", "| | | |", "+-+-+-+")
        self.judged([0, 1, 0, 1], "+-+-+-+", "|A.B| |", "+ + +-+", "|   | |", "+-+-+-+")
        self.judged([0, 0, 0, 3], "+-+-+-+", "|A B| |", "+.+.+ +", "|...| |", "+-+-+-+")

    def test_as_many_passages_as_a_perfect_garden_has_but_a_ring_and_two_rooms(self):
        self.judged([0, 1, 0, 1], "+-+-+-+", "|A.B  |", "+ + +-+", "|   | |", "+-+-+-+")
        self.judged([0, 1, 1, 1], "+-+-+-+", "|  A.B|", "+ + +-+", "|   | |", "+-+-+-+")

    def test_every_plan_of_small_gardens(self):
        for wide, high in ((1, 2), (2, 1), (1, 5), (5, 1), (2, 2), (3, 2), (2, 3)):
            for hedges in every_hedging(wide, high):
                for way, answer in by_all_ways(wide, high, hedges):
                    self.assertEqual(judge(draw(wide, high, hedges, way)), answer)

    def test_plans_of_middle_gardens(self):
        chance = Random("middle")
        for wide, high in ((3, 3), (4, 3), (3, 4), (2, 6), (6, 2)):
            for turn in range(6):
                hedges = some_hedges(chance, wide, high)
                for way, answer in list(by_all_ways(wide, high, hedges))[::7]:
                    self.assertEqual(judge(draw(wide, high, hedges, way)), answer)

    def test_plans_of_all_sizes(self):
        for wide, high, hedges, way in some_plans("judge", 3):
            self.assertEqual(judge(draw(wide, high, hedges, way)), by_planting(wide, high, hedges, way))


class Edges(unittest.TestCase):
    def test_two_squares_alone(self):
        self.assertEqual(judge(sheet("+-+-+", "|A.B|", "+-+-+")), [0, 1, 1, 1, 1])
        self.assertEqual(judge(sheet("+-+", "|B|", "+.+", "|A|", "+-+")), [0, 1, 1, 1, 1])

    def test_the_largest_garden_without_a_hedge(self):
        corner = list(range(10)) + list(range(19, 100, 10))
        self.assertEqual(judge(draw(10, 10, [], corner)), [0, 0, 1, 0, 18])
        self.assertEqual(judge(draw(10, 10, [], corner[::-1])), [0, 0, 1, 0, 18])
        self.assertEqual(judge(draw(10, 10, [], [44, 45])), [0, 0, 1, 0, 1])
        self.assertEqual(judge(draw(10, 10, [], [44, 34, 35, 45])), [0, 0, 0, 0, 3])

    def test_a_way_through_every_square(self):
        way = snake(10, 10)
        steps = [sorted(pair) for pair in zip(way, way[1:])]
        fenced = [k for k, pair in enumerate(inner_sides(10, 10)) if sorted(pair) not in steps]
        self.assertEqual(judge(draw(10, 10, fenced, way)), [0, 1, 1, 1, 99])
        self.assertEqual(judge(draw(10, 10, [], way)), [0, 0, 0, 0, 99])
        # One passage more closes a ring of the first two rows.
        self.assertEqual(judge(draw(10, 10, [k for k in fenced if k != 90], way)), [0, 0, 0, 0, 99])

    def test_one_row_and_one_column(self):
        for wide, high in ((10, 1), (1, 10)):
            self.assertEqual(judge(draw(wide, high, [], [2, 3, 4, 5, 6, 7])), [0, 1, 1, 1, 5])
            self.assertEqual(judge(draw(wide, high, [], snake(10, 1))), [0, 1, 1, 1, 9])
            self.assertEqual(judge(draw(wide, high, [7], [7, 6, 5, 4, 3, 2])), [0, 0, 1, 1, 5])

    def test_beside_one_another_with_a_passage_not_taken(self):
        self.assertEqual(judge(sheet("+-+-+", "|A..|", "+ +.+", "|B..|", "+-+-+")), [0, 0, 0, 0, 3])

    def test_beside_one_another_with_a_hedge(self):
        self.assertEqual(judge(sheet("+-+-+", "|A..|", "+-+.+", "|B..|", "+-+-+")), [0, 1, 1, 1, 3])


class OnlyWays(unittest.TestCase):
    """K2."""

    def test_an_only_way_is_a_shortest_one(self):
        met = set()
        for wide, high, hedges, way in some_plans("only", 8):
            answer = judge(draw(wide, high, hedges, way))
            met.add(tuple(answer[1:4]))
            self.assertLessEqual(answer[3], answer[2])
            # In a perfect garden there is but one way.
            self.assertLessEqual(answer[1], answer[3])
        self.assertEqual(met, {(0, 0, 0), (0, 1, 0), (0, 1, 1), (1, 1, 1)})

    def test_without_a_ring(self):
        chance = Random("forest")
        for wide, high in SIZES[1:]:
            hedges = tree(f"{wide} {high}", wide, high)
            way = some_way(chance, wide, high, hedges)
            self.assertEqual(judge(draw(wide, high, hedges, way)), [0, 1, 1, 1, len(way) - 1])
            more = sorted(set(hedges) | set(some_hedges(chance, wide, high)))
            way = some_way(chance, wide, high, more)
            if way:
                self.assertTrue(without_ring(wide, high, more))
                self.assertEqual(judge(draw(wide, high, more, way)), [0, int(more == hedges), 1, 1, len(way) - 1])


class Time(unittest.TestCase):
    def test_no_plan_takes_long(self):
        # Going through all ways would take longer than anyone can wait; the limit is far from tight.
        begun = perf_counter()
        for turn in range(10):
            for way in (snake(10, 10), [0, 1], list(range(10)) + list(range(19, 100, 10)), [44, 34, 35, 45]):
                judge(draw(10, 10, [], way))
                judge(draw(10, 10, [130], way[:2]))
        self.assertLess(perf_counter() - begun, 30)


if __name__ == "__main__":
    unittest.main()
