"""print_of: the whole answer for ordinary inputs, the document's edges and wrong inputs (K1)."""

import unittest
from itertools import permutations, product

from gardenplans.plans import print_of
from tests.helper import Untouched, draw, every_hedging, every_way, inner_sides, sheet, snake

SMALL = sheet(
    "+-+-+-+",
    "|   | |",
    "+ +-+ +",
    "|     |",
    "+-+-+-+",
)
LARGEST = 4294967295


class Ordinary(unittest.TestCase):
    def test_right_lower_and_upper(self):
        self.assertEqual(print_of(SMALL, [1, 0, 3, 4, 5, 2]), [0] + sheet(
            "+-+-+-+",
            "|..A|B|",
            "+.+-+.+",
            "|.....|",
            "+-+-+-+",
        ))

    def test_the_same_way_back(self):
        self.assertEqual(print_of(SMALL, [2, 5, 4, 3, 0, 1]), [0] + sheet(
            "+-+-+-+",
            "|..B|A|",
            "+.+-+.+",
            "|.....|",
            "+-+-+-+",
        ))

    def test_two_squares_in_each_direction(self):
        middle = draw(3, 3, [])
        self.assertEqual(print_of(middle, [4, 1]), [0] + sheet(
            "+-+-+-+", "|  B  |", "+ +.+ +", "|  A  |", "+ + + +", "|     |", "+-+-+-+"))
        self.assertEqual(print_of(middle, [4, 5]), [0] + sheet(
            "+-+-+-+", "|     |", "+ + + +", "|  A.B|", "+ + + +", "|     |", "+-+-+-+"))
        self.assertEqual(print_of(middle, [4, 7]), [0] + sheet(
            "+-+-+-+", "|     |", "+ + + +", "|  A  |", "+ +.+ +", "|  B  |", "+-+-+-+"))
        self.assertEqual(print_of(middle, [4, 3]), [0] + sheet(
            "+-+-+-+", "|     |", "+ + + +", "|B.A  |", "+ + + +", "|     |", "+-+-+-+"))

    def test_a_passage_not_gone_through_stays_blank_between_squares_of_the_way(self):
        self.assertEqual(print_of(draw(2, 2, []), [0, 1, 3, 2]), [0] + sheet(
            "+-+-+",
            "|A..|",
            "+ +.+",
            "|B..|",
            "+-+-+",
        ))

    def test_a_wide_garden_with_hedges(self):
        garden = sheet(
            "+-+-+-+-+-+",
            "| |     | |",
            "+ + +-+ + +",
            "|   |   | |",
            "+-+ + +-+ +",
            "|   |     |",
            "+-+-+-+-+-+",
        )
        self.assertEqual(print_of(garden, [0, 5, 6, 1, 2, 3, 8, 7, 12, 13, 14, 9, 4]), [0] + sheet(
            "+-+-+-+-+-+",
            "|A|.....|B|",
            "+.+.+-+.+.+",
            "|...|...|.|",
            "+-+ +.+-+.+",
            "|   |.....|",
            "+-+-+-+-+-+",
        ))

    def test_every_plan_of_small_gardens(self):
        for wide, high in ((1, 2), (2, 1), (1, 4), (4, 1), (2, 2), (3, 2), (2, 3)):
            for hedges in every_hedging(wide, high):
                garden = draw(wide, high, hedges)
                for way in every_way(wide, high, hedges):
                    self.assertEqual(print_of(garden, way), [0] + draw(wide, high, hedges, way))

    def test_no_two_plans_have_one_drawing(self):
        met = {}
        for wide, high in ((1, 3), (3, 1), (2, 2), (3, 2), (2, 3)):
            for hedges in every_hedging(wide, high):
                garden = draw(wide, high, hedges)
                for way in every_way(wide, high, hedges):
                    plan = (wide, high, tuple(hedges), tuple(way))
                    self.assertEqual(met.setdefault(tuple(print_of(garden, way)), plan), plan)

    def test_answers_are_ints(self):
        for answer in (print_of(SMALL, [0, 1]), print_of(SMALL, []), print_of([], []), print_of([0] * 1025, [])):
            self.assertIs(type(answer), list)
            self.assertEqual({type(number) for number in answer}, {int})


class Sizes(unittest.TestCase):
    def test_one_square(self):
        garden = sheet("+-+", "| |", "+-+")
        for way in ([], [0], [0, 0], [0, 1], [1, 0], [1]):
            self.assertEqual(print_of(garden, way), [-9])

    def test_one_row(self):
        garden = sheet("+-+-+-+", "|   | |", "+-+-+-+")
        self.assertEqual(print_of(garden, [0, 1]), [0] + sheet("+-+-+-+", "|A.B| |", "+-+-+-+"))
        self.assertEqual(print_of(garden, [1, 0]), [0] + sheet("+-+-+-+", "|B.A| |", "+-+-+-+"))
        self.assertEqual(print_of(garden, [1, 2]), [-9])

    def test_one_column(self):
        garden = sheet("+-+", "| |", "+-+", "| |", "+ +", "| |", "+-+")
        self.assertEqual(print_of(garden, [1, 2]), [0] + sheet("+-+", "| |", "+-+", "|A|", "+.+", "|B|", "+-+"))
        self.assertEqual(print_of(garden, [2, 1]), [0] + sheet("+-+", "| |", "+-+", "|B|", "+.+", "|A|", "+-+"))
        self.assertEqual(print_of(garden, [0, 1]), [-9])

    def test_every_size_with_a_way_through_every_square(self):
        for wide, high in product(range(1, 11), repeat=2):
            way = snake(wide, high)
            if len(way) > 1:
                for walked in (way, way[::-1]):
                    self.assertEqual(print_of(draw(wide, high, []), walked), [0] + draw(wide, high, [], walked))

    def test_every_size_with_hedges_at_all_sides_not_gone_through(self):
        for wide, high in product(range(1, 11), repeat=2):
            way = snake(wide, high)
            steps = [sorted(pair) for pair in zip(way, way[1:])]
            hedges = [k for k, pair in enumerate(inner_sides(wide, high)) if sorted(pair) not in steps]
            if len(way) > 1:
                self.assertEqual(print_of(draw(wide, high, hedges), way), [0] + draw(wide, high, hedges, way))

    def test_eleven_are_too_many(self):
        for few in range(1, 12):
            self.assertEqual(print_of(draw(11, few, []), [0, 1]), [-6])
            self.assertEqual(print_of(draw(few, 11, []), [0, few]), [-6])
            sides = range(len(inner_sides(few, 11)))
            self.assertEqual(print_of(draw(few, 11, sides), []), [-6])

    def test_no_squares_along_are_too_few(self):
        self.assertEqual(print_of(sheet("+-+"), []), [-6])
        self.assertEqual(print_of(sheet("+", "|", "+"), []), [-6])
        self.assertEqual(print_of(sheet("+"), []), [-6])
        self.assertEqual(print_of(sheet("", "", ""), []), [-6])


class TooManyBytes(unittest.TestCase):
    def test_the_limit(self):
        for count in (463, 1000, 1023, 1024):
            self.assertEqual(print_of([43] * count, [0, 1]), [-6])
        for count in (1025, 1026, 1500, 2000):
            self.assertEqual(print_of([43] * count, [0, 1]), [-2])

    def test_a_garden_followed_by_more(self):
        garden = draw(10, 10, [])
        self.assertEqual(len(garden), 462)
        self.assertEqual(print_of(garden + [32] * (1024 - 462), snake(10, 10)), [-6])
        self.assertEqual(print_of(garden + [32] * (1025 - 462), snake(10, 10)), [-2])

    def test_a_form_of_a_garden_with_too_many_bytes(self):
        self.assertEqual(print_of(draw(15, 15, []), [0, 1]), [-6])
        self.assertEqual(len(draw(1, 127, [])), 1020)
        self.assertEqual(print_of(draw(1, 127, []), [0, 1]), [-6])
        self.assertEqual(print_of(draw(1, 128, []), [0, 1]), [-2])


class SeveralRefusals(unittest.TestCase):
    def test_too_many_bytes_counts_first(self):
        for way in ([], [0], [0, 0], [LARGEST, LARGEST], [0] * 30000):
            self.assertEqual(print_of([10] * 1025, way), [-2])

    def test_no_garden_counts_before_no_way(self):
        for way in ([], [0], [0, 0], [LARGEST, LARGEST], [0] * 30000):
            self.assertEqual(print_of([10] * 1024, way), [-6])
            self.assertEqual(print_of([], way), [-6])


class NoGarden(unittest.TestCase):
    def test_no_bytes(self):
        self.assertEqual(print_of([], [0, 1]), [-6])

    def test_it_stops_too_soon(self):
        for garden in (SMALL, draw(1, 1, []), draw(10, 10, [])):
            for count in range(len(garden)):
                self.assertEqual(print_of(garden[:count], [0, 1]), [-6])

    def test_whole_rows_of_squares_end_early_only_at_a_line_without_a_blank(self):
        garden = sheet("+-+-+", "|   |", "+-+-+", "|   |", "+-+-+")
        self.assertEqual(print_of(garden[:18], [0, 1]), [0] + sheet("+-+-+", "|A.B|", "+-+-+"))
        self.assertEqual(print_of(garden[:24], [0, 1]), [-6])

    def test_it_goes_on_behind_its_last_line(self):
        for garden in (SMALL, draw(1, 1, []), draw(10, 10, [])):
            for byte in range(256):
                self.assertEqual(print_of(garden + [byte], [0, 1]), [-6])
            self.assertEqual(print_of(garden + garden, [0, 1]), [-6])
            self.assertEqual(print_of(garden + garden[:garden.index(10) + 1], [0, 1]), [-6])

    def test_every_byte_at_every_place(self):
        for wide, high in ((1, 1), (2, 1), (1, 2), (2, 2)):
            gardens = [draw(wide, high, hedges) for hedges in every_hedging(wide, high)]
            for garden in gardens:
                for place, byte in product(range(len(garden)), range(256)):
                    changed = list(garden)
                    changed[place] = byte
                    self.assertEqual(print_of(changed, []), [-9] if changed in gardens else [-6])

    def test_a_likely_byte_at_every_place_of_the_largest_garden(self):
        garden = draw(10, 10, range(0, 180, 2))
        for place, byte in product(range(len(garden)), b"\n +-|.AB"):
            row, column = divmod(place, 22)
            inner = row % 2 != column % 2 and 0 < row < 20 and 0 < column < 20
            level = row % 2 == 0
            fits = byte == garden[place] or inner and byte in (32, 45 if level else 124)
            changed = list(garden)
            changed[place] = byte
            self.assertEqual(print_of(changed, []), [-9] if fits else [-6])

    def test_a_byte_left_out_or_put_in(self):
        for place in range(len(SMALL)):
            self.assertEqual(print_of(SMALL[:place] + SMALL[place + 1:], [0, 1]), [-6])
        for place, byte in product(range(len(SMALL) + 1), b"\n +-|"):
            self.assertEqual(print_of(SMALL[:place] + [byte] + SMALL[place:], [0, 1]), [-6])

    def test_a_level_line_with_a_blank(self):
        self.assertEqual(print_of(sheet("+-+-+", "|   |", "+ +-+", "|   |", "+-+-+"), [0, 1]), [0] + sheet(
            "+-+-+", "|A.B|", "+ +-+", "|   |", "+-+-+"))
        self.assertEqual(print_of(sheet("+-+-+", "|   |", "+ +-+"), [0, 1]), [-6])
        self.assertEqual(print_of(sheet("+-+-+", "|   |", "+-+ +"), [0, 1]), [-6])
        self.assertEqual(print_of(sheet("+-+ +", "|   |", "+-+-+"), [0, 1]), [-6])

    def test_a_blank_behind_ten_rows(self):
        garden = draw(3, 10, [])
        garden[-3] = 32
        self.assertEqual(print_of(garden, [0, 1]), [-6])

    def test_lines_of_unlike_lengths(self):
        for lines in (
            ("+-+-+", "| |", "+-+-+"),
            ("+-+", "|   |", "+-+"),
            ("+-+-+", "|   |", "+-+"),
            ("+-+", "| |", "+-+-+"),
            ("+-+-+", "|     |", "+-+"),
            ("+-+-+", "|   | ", "+-+-"),
            ("+-+-", "|   ", "+-+-"),
            ("+-+-+-", "|     ", "+-+-+-"),
        ):
            self.assertEqual(print_of(sheet(*lines), [0, 1]), [-6])

    def test_the_signs_of_a_plan_are_no_gardens(self):
        self.assertEqual(print_of(print_of(SMALL, [0, 1])[1:], [0, 1]), [-6])
        for place, byte in product(range(len(SMALL)), b".AB"):
            changed = list(SMALL)
            changed[place] = byte
            self.assertEqual(print_of(changed, [0, 1]), [-6])

    def test_other_line_ends(self):
        text = bytes(SMALL)
        self.assertEqual(print_of(list(text.replace(b"\n", b"\r\n")), [0, 1]), [-6])
        self.assertEqual(print_of(list(text.replace(b"\n", b"\r")), [0, 1]), [-6])
        self.assertEqual(print_of(list(b"\n" + text), [0, 1]), [-6])


class NoWay(unittest.TestCase):
    def refused(self, *ways):
        for way in ways:
            self.assertEqual(print_of(SMALL, list(way)), [-9])

    def test_no_square_and_one(self):
        self.refused([], [0], [5], [6], [LARGEST])

    def test_a_square_not_in_the_garden(self):
        self.refused([5, 6], [6, 5], [2, 5, 8], [3, 6], [6, 7], [0, 1, LARGEST], [LARGEST, 0], [LARGEST - 1, LARGEST])
        for far in (6, 7, 8, 255, 256, 65536, 2147483648, 4294967290, 4294967296 - 3, LARGEST):
            self.refused([0, far], [far, 0], [0, 3, far], [far, 3, 0])

    def test_a_square_twice(self):
        self.refused([0, 0], [0, 1, 0], [0, 1, 1], [0, 0, 1], [3, 4, 5, 4])
        ring = draw(2, 2, [])
        self.assertEqual(print_of(ring, [0, 1, 3, 2, 0]), [-9])
        self.assertEqual(print_of(ring, [0, 1, 3, 2]), [0] + draw(2, 2, [], [0, 1, 3, 2]))

    def test_not_beside_one_another(self):
        self.refused([0, 2], [0, 5], [0, 4], [1, 3], [3, 5], [0, 3, 5], [0, 1, 3])

    def test_the_end_of_a_row_and_the_next_ones_beginning(self):
        for wide, high in ((1, 3), (2, 2), (3, 2), (2, 5), (10, 10)):
            garden = draw(wide, high, [])
            last = wide - 1
            beside = wide == 1
            for way in ([last, last + 1], [last + 1, last]):
                answer = [0] + draw(wide, high, [], way) if beside else [-9]
                self.assertEqual(print_of(garden, way), answer)

    def test_a_hedge_between(self):
        self.refused([1, 2], [2, 1], [1, 4], [4, 1], [0, 1, 2], [3, 4, 1], [0, 1, 4])

    def test_all_rows_of_up_to_four_squares(self):
        for wide, high in ((2, 2), (3, 1), (1, 3)):
            for hedges in every_hedging(wide, high):
                garden = draw(wide, high, hedges)
                ways = list(every_way(wide, high, hedges))
                for count in range(5):
                    for way in product(range(wide * high + 1), repeat=count):
                        answer = [0] + draw(wide, high, hedges, way) if list(way) in ways else [-9]
                        self.assertEqual(print_of(garden, list(way)), answer)

    def test_all_orders_of_six_squares(self):
        hedges = [1, 3]
        ways = list(every_way(3, 2, hedges))
        for way in permutations(range(6)):
            answer = [0] + draw(3, 2, hedges, way) if list(way) in ways else [-9]
            self.assertEqual(print_of(draw(3, 2, hedges), list(way)), answer)

    def test_a_long_way(self):
        garden = draw(10, 10, [])
        there = snake(10, 10)
        for way in (
            [0] * 30000,
            [0, 1] * 15000,
            list(range(30000)),
            [LARGEST] * 30000,
            (there + there[::-1]) * 150,
            there + list(range(100, 30000)),
        ):
            self.assertEqual(len(way), 30000)
            self.assertEqual(print_of(garden, way), [-9])


class NothingKept(unittest.TestCase):
    CALLS = (
        (SMALL, [1, 0, 3, 4, 5, 2]),
        (SMALL, [0, 1]),
        (SMALL, [1, 2]),
        (SMALL, []),
        (SMALL[:-1], [0, 1]),
        ([], []),
        ([43] * 1025, [0, 1]),
        (draw(10, 10, []), snake(10, 10)),
        (draw(10, 10, []), [0] * 30000),
    )

    def test_what_is_handed_in_stays(self):
        for garden, way in self.CALLS:
            handed_garden, handed_way = list(garden), list(way)
            print_of(handed_garden, handed_way)
            self.assertEqual(handed_garden, garden)
            self.assertEqual(handed_way, way)

    def test_what_is_handed_in_is_not_changed_for_a_while_either(self):
        for garden, way in self.CALLS:
            self.assertEqual(print_of(Untouched(garden), Untouched(way)), print_of(garden, way))

    def test_the_same_answer_whenever_called(self):
        first = [print_of(garden, way) for garden, way in self.CALLS]
        for turn in range(3):
            again = [print_of(garden, way) for garden, way in reversed(self.CALLS)]
            self.assertEqual(again[::-1], first)

    def test_an_answer_changed_changes_no_later_one(self):
        for garden, way in self.CALLS:
            answer = print_of(garden, way)
            kept = list(answer)
            answer.clear()
            self.assertEqual(print_of(garden, way), kept)


if __name__ == "__main__":
    unittest.main()
