"""garden: the whole answer for ordinary plans and the document's edges (K1)."""

import unittest

from gardenplans.plans import garden, print_of
from tests.helper import SIZES, draw, every_plan, inner_sides, sheet, snake, some_plans


class Ordinary(unittest.TestCase):
    def test_both_kinds_of_sides_and_all_directions(self):
        self.assertEqual(garden(sheet(
            "+-+-+-+-+-+",
            "|A|.....|B|",
            "+.+.+-+.+.+",
            "|...|...|.|",
            "+-+ +.+-+.+",
            "|   |.....|",
            "+-+-+-+-+-+",
        )), [0] + sheet(
            "+-+-+-+-+-+",
            "| |     | |",
            "+ + +-+ + +",
            "|   |   | |",
            "+-+ + +-+ +",
            "|   |     |",
            "+-+-+-+-+-+",
        ))

    def test_the_same_way_back(self):
        self.assertEqual(garden(sheet(
            "+-+-+-+",
            "|..B|A|",
            "+.+-+.+",
            "|.....|",
            "+-+-+-+",
        )), [0] + sheet(
            "+-+-+-+",
            "|   | |",
            "+ +-+ +",
            "|     |",
            "+-+-+-+",
        ))

    def test_one_step_in_each_direction(self):
        bare = [0] + draw(3, 3, [])
        for other in (1, 3, 5, 7):
            self.assertEqual(garden(draw(3, 3, [], [4, other])), bare)

    def test_passages_beside_the_way_stay(self):
        self.assertEqual(garden(sheet(
            "+-+-+-+",
            "|A..  |",
            "+ +.+ +",
            "|B..| |",
            "+ + + +",
            "| |   |",
            "+-+-+-+",
        )), [0] + sheet(
            "+-+-+-+",
            "|     |",
            "+ + + +",
            "|   | |",
            "+ + + +",
            "| |   |",
            "+-+-+-+",
        ))

    def test_every_plan_of_small_gardens(self):
        for wide, high in ((1, 2), (2, 1), (1, 4), (4, 1), (2, 2), (3, 2), (2, 3)):
            for hedges, way in every_plan(wide, high):
                self.assertEqual(garden(draw(wide, high, hedges, way)), [0] + draw(wide, high, hedges))

    def test_what_print_of_draws(self):
        for wide, high, hedges, way in some_plans("garden", 5):
            drawing = draw(wide, high, hedges)
            printed = print_of(drawing, way)
            self.assertEqual(printed, [0] + draw(wide, high, hedges, way))
            self.assertEqual(garden(printed[1:]), [0] + drawing)


class Sizes(unittest.TestCase):
    def test_two_squares_in_a_row(self):
        for line in ("|A.B|", "|B.A|"):
            self.assertEqual(garden(sheet("+-+-+", line, "+-+-+")), [0] + sheet("+-+-+", "|   |", "+-+-+"))

    def test_two_squares_in_a_column(self):
        bare = [0] + sheet("+-+", "| |", "+ +", "| |", "+-+")
        self.assertEqual(garden(sheet("+-+", "|A|", "+.+", "|B|", "+-+")), bare)
        self.assertEqual(garden(sheet("+-+", "|B|", "+.+", "|A|", "+-+")), bare)

    def test_every_size_with_a_way_through_every_square(self):
        for wide, high in SIZES[1:]:
            way = snake(wide, high)
            steps = [sorted(pair) for pair in zip(way, way[1:])]
            fenced = [k for k, pair in enumerate(inner_sides(wide, high)) if sorted(pair) not in steps]
            for hedges in ([], fenced):
                for walked in (way, way[::-1]):
                    plan = draw(wide, high, hedges, walked)
                    self.assertEqual(garden(plan), [0] + draw(wide, high, hedges))


if __name__ == "__main__":
    unittest.main()
