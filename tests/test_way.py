"""way: the whole answer for ordinary plans and the document's edges (K1)."""

import unittest

from gardenplans.plans import garden, print_of, way
from tests.helper import SIZES, draw, every_plan, sheet, snake, some_plans


class Ordinary(unittest.TestCase):
    def test_all_four_directions(self):
        self.assertEqual(way(sheet(
            "+-+-+-+-+-+",
            "|A|.....|B|",
            "+.+.+-+.+.+",
            "|...|...|.|",
            "+-+ +.+-+.+",
            "|   |.....|",
            "+-+-+-+-+-+",
        )), [0, 0, 5, 6, 1, 2, 3, 8, 7, 12, 13, 14, 9, 4])

    def test_there_and_back(self):
        lines = ["+-+-+-+", "|..A|B|", "+.+-+.+", "|.....|", "+-+-+-+"]
        self.assertEqual(way(sheet(*lines)), [0, 1, 0, 3, 4, 5, 2])
        lines[1] = "|..B|A|"
        self.assertEqual(way(sheet(*lines)), [0, 2, 5, 4, 3, 0, 1])

    def test_one_step_in_each_direction(self):
        for other in (1, 5, 7, 3):
            self.assertEqual(way(draw(3, 3, [], [4, other])), [0, 4, other])

    def test_a_way_that_comes_back_beside_itself(self):
        self.assertEqual(way(sheet(
            "+-+-+-+",
            "|.....|",
            "+.+ +.+",
            "|. B..|",
            "+.+ + +",
            "|....A|",
            "+-+-+-+",
        )), [0, 8, 7, 6, 3, 0, 1, 2, 5, 4])
        self.assertEqual(way(sheet(
            "+-+-+-+-+",
            "|... ...|",
            "+.+.+.+.+",
            "|. ... .|",
            "+.+-+ +.+",
            "|. A|B .|",
            "+.+.+.+.+",
            "|... ...|",
            "+-+-+-+-+",
        )), [0, 9, 13, 12, 8, 4, 0, 1, 5, 6, 2, 3, 7, 11, 15, 14, 10])

    def test_passages_beside_the_way_are_not_taken(self):
        self.assertEqual(way(sheet("+-+-+", "|A..|", "+ +.+", "|B..|", "+-+-+")), [0, 0, 1, 3, 2])
        self.assertEqual(way(sheet("+-+-+", "|A  |", "+.+ +", "|..B|", "+-+-+")), [0, 0, 2, 3])

    def test_every_plan_of_small_gardens(self):
        for wide, high in ((1, 2), (2, 1), (1, 4), (4, 1), (2, 2), (3, 2), (2, 3)):
            for hedges, walked in every_plan(wide, high):
                self.assertEqual(way(draw(wide, high, hedges, walked)), [0] + walked)


class BesidePrintOf(unittest.TestCase):
    def test_what_print_of_draws(self):
        for wide, high, hedges, walked in some_plans("way", 5):
            printed = print_of(draw(wide, high, hedges), walked)
            self.assertEqual(way(printed[1:]), [0] + walked)

    def test_what_is_told_of_a_plan_prints_it(self):
        for wide, high, hedges, walked in some_plans("back", 5):
            plan = draw(wide, high, hedges, walked)
            self.assertEqual(print_of(garden(plan)[1:], way(plan)[1:]), [0] + plan)


class Sizes(unittest.TestCase):
    def test_two_squares(self):
        self.assertEqual(way(sheet("+-+-+", "|A.B|", "+-+-+")), [0, 0, 1])
        self.assertEqual(way(sheet("+-+-+", "|B.A|", "+-+-+")), [0, 1, 0])
        self.assertEqual(way(sheet("+-+", "|A|", "+.+", "|B|", "+-+")), [0, 0, 1])
        self.assertEqual(way(sheet("+-+", "|B|", "+.+", "|A|", "+-+")), [0, 1, 0])

    def test_every_size_with_a_way_through_every_square(self):
        for wide, high in SIZES[1:]:
            for walked in (snake(wide, high), snake(wide, high)[::-1]):
                self.assertEqual(way(draw(wide, high, [], walked)), [0] + walked)

    def test_column_by_column(self):
        walked = [square % 10 * 10 + square // 10 for square in snake(10, 10)]
        self.assertEqual(way(draw(10, 10, [], walked)), [0] + walked)

    def test_from_the_last_square_to_the_first(self):
        walked = [99 - x for x in range(10)] + [80 - 10 * y for y in range(9)]
        self.assertEqual((walked[0], walked[-1]), (99, 0))
        self.assertEqual(way(draw(10, 10, [], walked)), [0] + walked)


if __name__ == "__main__":
    unittest.main()
