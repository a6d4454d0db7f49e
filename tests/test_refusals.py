"""The calls that read a plan: -2, -6 and the fault's place, -9, and that nothing is kept (K1)."""

import unittest
from itertools import product
from random import Random

from gardenplans.plans import garden, judge, way
from tests.helper import (
    SIZES, Untouched, draw, every_plan, fault, inner_sides, sheet, signs_of_sheet, snake, some_plans,
)

READERS = (garden, way, judge)
SMALL = sheet(
    "+-+-+-+",
    "|..A|B|",
    "+.+-+.+",
    "|.....|",
    "+-+-+-+",
)
LARGE = draw(10, 10, range(1, 180, 7), [0, 1])


def changed(drawing, place, byte):
    return drawing[:place] + [byte] + drawing[place + 1:]


class Readers(unittest.TestCase):
    def refused(self, plan, *answer):
        for call in READERS:
            self.assertEqual(call(plan), list(answer), (call.__name__, bytes(plan)))

    def told(self, plan):
        for call in READERS:
            self.assertEqual(call(plan)[0], 0, (call.__name__, bytes(plan)))

    def as_sheets_go(self, drawing):
        place = fault(drawing)
        for call in READERS:
            answer = call(drawing)
            if place is None:
                self.assertTrue(answer == [-9] or answer[0] == 0, (call.__name__, bytes(drawing)))
            else:
                self.assertEqual(answer, [-6, place], (call.__name__, bytes(drawing)))


class TooManyBytes(Readers):
    def test_the_limit(self):
        for count in (1000, 1023, 1024):
            self.refused([43] * count, -6, 1)
        for count in (1025, 1026, 1500, 2000):
            self.refused([43] * count, -2)

    def test_a_plan_followed_by_more(self):
        self.assertEqual(len(LARGE), 462)
        self.told(LARGE)
        self.refused(LARGE + [32] * (1024 - 462), -6, 462)
        self.refused(LARGE + [32] * (1025 - 462), -2)

    def test_the_form_of_a_plan_that_is_too_high(self):
        plan = draw(1, 127, [], [0, 1])
        self.assertEqual(len(plan), 1020)
        self.refused(plan, -6, 20 * 4 + 1)
        self.refused(draw(1, 128, [], [0, 1]), -2)


class Ends(Readers):
    def test_no_bytes(self):
        self.refused([], -6, 0)

    def test_a_first_line_that_stops(self):
        line = list(b"+-+-+-+-+-+-+-+-+-+-+\n")
        for count in range(len(line) + 1):
            self.refused(line[:count], -6, count)

    def test_it_stops_too_soon(self):
        for plan in (SMALL, draw(10, 10, [], snake(10, 10)[9:]), draw(1, 10, [], [3, 4]), draw(10, 1, [], [3, 4])):
            self.told(plan)
            for count in range(len(plan)):
                self.refused(plan[:count], -6, count)

    def test_it_may_end_behind_a_level_line_of_hedges_alone(self):
        plan = draw(2, 3, [3, 4, 5, 6], [1, 0])
        for count in range(len(plan) + 1):
            if count in (18, 30, 42):
                self.told(plan[:count])
            else:
                self.refused(plan[:count], -6, count)

    def test_it_goes_on_behind_its_last_line(self):
        for byte in range(256):
            self.refused(LARGE + [byte], -6, 462)
            # An upright line's beginning might be a row of squares more.
            self.refused(SMALL + [byte], -6, 41 if byte == 124 else 40)
        self.refused(SMALL + sheet("+-+-+-+"), -6, 40)
        self.refused(SMALL + SMALL, -6, 40)

    def test_two_lines_more_make_it_higher(self):
        self.told(SMALL + sheet("|     |", "+-+-+-+"))
        self.refused(SMALL + sheet("|     |"), -6, 48)
        self.refused(SMALL + sheet("|     |", "+-+-+ +"), -6, 56)

    def test_a_level_line_with_a_blank_or_a_point_isnt_the_last(self):
        for line in ("+ +-+", "+-+ +", "+ + +", "+.+-+", "+-+.+", "+.+ +"):
            self.refused(sheet("+-+-+", "|A.B|", line), -6, 18)
            self.refused(sheet("+-+-+", "|A.B|", line, "|   |"), -6, 24)
            self.refused(sheet("+-+-+", "|A.B|", line, "+-+-+"), -6, 18)
            self.told(sheet("+-+-+", "|A.B|", line.replace(".", " "), "|   |", "+-+-+"))

    def test_a_level_line_behind_ten_rows(self):
        for wide, sign in product(range(1, 11), b" ."):
            plan = draw(wide, 10, [], [0, wide])
            for column in range(wide):
                place = 20 * (2 * wide + 2) + 2 * column + 1
                self.refused(changed(plan, place, sign), -6, place)
                self.refused(plan[:place] + [sign], -6, place)

    def test_a_level_line_behind_nine_rows(self):
        for wide, sign in product(range(1, 11), b" ."):
            plan = draw(wide, 9, [], [0, wide])
            for column in range(wide):
                place = 18 * (2 * wide + 2) + 2 * column + 1
                self.refused(changed(plan, place, sign), -6, len(plan))

    def test_an_eleventh_row(self):
        for wide in range(1, 11):
            length = 2 * wide + 2
            self.refused(draw(wide, 11, [], [0, wide]), -6, 20 * length + 1)
            self.refused(draw(wide, 11, range(len(inner_sides(wide, 11)))), -6, 21 * length)

    def test_an_eleventh_column(self):
        for high in range(1, 12):
            self.refused(draw(11, high, [], [0, 1]), -6, 21)
        self.refused(draw(15, 15, [], [0, 1]), -6, 21)

    def test_no_squares_along(self):
        self.refused(sheet("+-+"), -6, 4)
        self.refused(sheet("+-+", "+-+"), -6, 4)
        self.refused(sheet("+", "|", "+"), -6, 1)
        self.refused(sheet("", "", ""), -6, 0)
        self.refused(sheet("+-", "| ", "+-"), -6, 2)


class WrongBytes(Readers):
    def test_where_just_these_may_stand(self):
        for name, place, signs in (
            ("first corner", 0, b"+"), ("first line", 1, b"-"), ("its next corner", 2, b"+"),
            ("left border", 8, b"|"), ("square", 9, b" .AB"), ("upright inner side", 10, b"| ."),
            ("right border", 14, b"|"), ("line feed", 15, b"\n"), ("corner at the left", 16, b"+"),
            ("level inner side", 17, b"- ."), ("inner corner", 18, b"+"), ("corner at the right", 22, b"+"),
            ("line feed of a level line", 23, b"\n"), ("last line's corner", 32, b"+"),
            ("last line's inner corner", 34, b"+"), ("last line feed", 39, b"\n"),
        ):
            for byte in set(range(256)) - set(signs):
                with self.subTest(name, byte=byte):
                    self.refused(changed(SMALL, place, byte), -6, place)

    def test_in_the_first_line_where_it_may_end(self):
        for byte in set(range(256)) - set(b"-\n"):
            for place in (3, 5, 7):
                self.refused(changed(SMALL, place, byte), -6, place)
        # The line feed makes it narrower, so the next line is at fault: it begins with a corner.
        self.refused(changed(SMALL, 3, 10), -6, 4)
        self.refused(changed(SMALL, 5, 10), -6, 6)
        # The hedge makes it wider, so the corner is missed.
        self.refused(changed(SMALL, 7, 45), -6, 8)

    def test_in_the_last_line(self):
        for byte in set(range(256)) - set(b"- ."):
            for place in (33, 35, 37):
                self.refused(changed(SMALL, place, byte), -6, place)
        for byte, place in product(b" .", (33, 35, 37)):
            self.refused(changed(SMALL, place, byte), -6, 40)

    def test_the_first_of_several(self):
        self.refused(changed(changed(SMALL, 30, 0), 20, 0), -6, 20)
        self.refused(changed(SMALL, 20, 0)[:30], -6, 20)
        self.refused(changed(SMALL, 20, 0) + SMALL, -6, 20)
        self.refused(changed(sheet("+-+-+", "|AAB|", "+ +-+"), 17, 0), -6, 8)

    def test_lines_of_unlike_lengths(self):
        for place, lines in (
            (9, ("+-+-+", "|A|", "+-+-+")),
            (6, ("+-+", "|A.B|", "+-+")),
            (15, ("+-+-+", "|A.B|", "+-+")),
            (11, ("+-+", "|A|", "+-+-+")),
            (10, ("+-+-+", "|A.B  |", "+-+-+")),
            (11, ("+-+-+", "|A.B| ", "+-+-+")),
            (4, ("+-+-", "|A.B", "+-+-")),
            (6, ("+-+-+-", "|A.B  ", "+-+-+-")),
        ):
            self.refused(sheet(*lines), -6, place)

    def test_other_line_ends(self):
        text = bytes(SMALL)
        self.refused(list(text.replace(b"\n", b"\r\n")), -6, 7)
        self.refused(list(text.replace(b"\n", b"\r")), -6, 7)
        self.refused(list(b"\n" + text), -6, 0)


class AsSheetsGo(Readers):
    """The fault's place beside that of a search through the sheets of all sizes."""

    def test_every_byte_at_every_place(self):
        for plan in (draw(2, 1, [], [0, 1]), draw(1, 2, [], [1, 0]), draw(2, 2, [2], [0, 1, 3])):
            for place, byte in product(range(len(plan)), range(256)):
                self.as_sheets_go(changed(plan, place, byte))

    def test_a_likely_byte_at_every_place(self):
        for plan in (SMALL, draw(1, 10, [], [3, 4]), draw(10, 1, [], [3, 4])):
            for place, byte in product(range(len(plan)), b"\n +-|.AB"):
                self.as_sheets_go(changed(plan, place, byte))

    def test_a_byte_left_out_or_put_in(self):
        for place in range(len(SMALL)):
            self.as_sheets_go(SMALL[:place] + SMALL[place + 1:])
        for place, byte in product(range(len(SMALL) + 1), b"\n +-|.AB"):
            self.as_sheets_go(SMALL[:place] + [byte] + SMALL[place:])

    def test_changes_by_chance_of_plans_of_all_sizes(self):
        chance = Random("changes")
        for wide, high, hedges, way in some_plans("faults", 4):
            plan = draw(wide, high, hedges, way)
            place = chance.randrange(len(plan))
            self.as_sheets_go(changed(plan, place, chance.choice(b"\n +-|.AB")))
            self.as_sheets_go(plan[:place] + plan[chance.randrange(len(plan)):])
            self.as_sheets_go(plan[:place])

    def test_sheets_by_chance_of_all_sizes(self):
        chance = Random("sheets")
        for wide, high in SIZES:
            for turn in range(4):
                drawing = [chance.choice(signs) for signs in signs_of_sheet(wide, high)]
                self.as_sheets_go(drawing)
                self.as_sheets_go(drawing[:chance.randrange(len(drawing))])


class NoPlan(Readers):
    def none(self, *lines):
        self.refused(sheet(*lines), -9)

    def test_one_square(self):
        for sign in " .AB":
            self.none("+-+", f"|{sign}|", "+-+")

    def test_without_a_beginning_or_an_end(self):
        for row in ("   ", ". .", "...", " . ", "A  ", "A. ", "A..", "  A", "B  ", "B. ", "B..", " .B"):
            self.none("+-+-+", f"|{row}|", "+-+-+")

    def test_two_of_either(self):
        for row in ("A.A", "B.B", "A A", "B B", "A|A", "B|B"):
            self.none("+-+-+", f"|{row}|", "+-+-+")
        for row in ("A.B.A", "A.A.B", "B.B.A", "B.A.B", "A.B A", "A.B B", "A A.B", "B A.B", "A.B|A", "A.B|B", "A.B.B"):
            self.none("+-+-+-+", f"|{row}|", "+-+-+-+")

    def test_no_point_at_a_side(self):
        for row in ("A B", "A|B", "B A", "B|A"):
            self.none("+-+-+", f"|{row}|", "+-+-+")
        self.none("+-+", "|A|", "+ +", "|B|", "+-+")
        self.none("+-+", "|B|", "+-+", "|A|", "+-+")
        self.none("+-+-+-+", "|A . B|", "+-+-+-+")

    def test_points_that_dont_join(self):
        for row in ("A.. B", "A ..B", "A..|B", "A|..B", "A.  B", "A  .B", "A. .B"):
            self.none("+-+-+-+", f"|{row}|", "+-+-+-+")

    def test_a_square_of_the_way_without_its_point(self):
        self.none("+-+-+-+", "|A. .B|", "+-+-+-+")
        self.none("+-+", "|A|", "+.+", "| |", "+.+", "|B|", "+-+")
        self.told(sheet("+-+", "|A|", "+.+", "|.|", "+.+", "|B|", "+-+"))

    def test_a_point_in_a_square_that_the_way_doesnt_come_to(self):
        for row in ("A.B .", "A.B|.", ". A.B", ".|B.A"):
            self.none("+-+-+-+", f"|{row}|", "+-+-+-+")

    def test_a_point_at_a_side_that_the_way_doesnt_go_through(self):
        self.none("+-+-+-+", "|A.B. |", "+-+-+-+")
        self.none("+-+-+-+", "| .A.B|", "+-+-+-+")
        self.none("+-+-+-+", "|A.B  |", "+ + +.+", "|     |", "+-+-+-+")
        self.none("+-+-+-+-+", "|A.B  . |", "+-+-+-+-+")

    def test_a_way_that_leads_on(self):
        self.none("+-+-+-+", "|A.B..|", "+-+-+-+")
        self.none("+-+-+-+", "|..A.B|", "+-+-+-+")
        self.none("+-+-+", "|A.B|", "+-+.+", "|...|", "+-+-+")

    def test_a_way_that_parts(self):
        self.none("+-+-+-+", "|A...B|", "+ +.+ +", "|  .  |", "+-+-+-+")
        self.none("+-+-+-+", "|  .  |", "+ +.+ +", "|A...B|", "+-+-+-+")
        self.none("+-+-+-+", "|A....|", "+.+ +.+", "|....B|", "+-+-+-+")
        self.none("+-+-+-+", "|.....|", "+.+ +.+", "|A...B|", "+-+-+-+")

    def test_two_ways_between_them(self):
        self.none("+-+-+", "|A.B|", "+.+.+", "|...|", "+-+-+")
        self.none("+-+-+", "|A..|", "+.+.+", "|..B|", "+-+-+")

    def test_a_ring(self):
        self.none("+-+-+", "|...|", "+.+.+", "|...|", "+-+-+")
        self.none("+-+-+", "|A..|", "+.+.+", "|...|", "+-+-+")
        self.none("+-+-+-+", "|A.B  |", "+ +-+-+", "| |...|", "+ +.+.+", "| |...|", "+-+-+-+")
        self.none("+-+-+-+", "|A.B  |", "+ + + +", "|  ...|", "+ +.+.+", "|  ...|", "+-+-+-+")
        self.none("+-+-+-+", "|A....|", "+-+.+.+", "|B....|", "+-+-+-+")

    def test_letters_in_the_middle(self):
        self.none("+-+-+-+", "|..A.B|", "+.+-+-+", "|..  B|", "+-+-+-+")
        self.none("+-+-+-+-+", "|A.B.A.B|", "+-+-+-+-+")
        self.none("+-+-+-+-+", "|..A.B..|", "+-+-+-+-+")

    def test_every_sheet_of_small_sizes(self):
        for wide, high in ((1, 1), (2, 1), (1, 2), (3, 1), (1, 3), (2, 2)):
            plans = {tuple(draw(wide, high, hedges, way)) for hedges, way in every_plan(wide, high)}
            told = 0
            for drawing in product(*signs_of_sheet(wide, high)):
                if drawing in plans:
                    self.told(list(drawing))
                    told += 1
                else:
                    self.refused(list(drawing), -9)
            self.assertEqual(told, len(plans))

    def test_one_sign_changed(self):
        for wide, high, hedges, way in some_plans("signs", 1, ((2, 5), (5, 2), (3, 4), (4, 4))):
            plan = draw(wide, high, hedges, way)
            for place, signs in enumerate(signs_of_sheet(wide, high)):
                side = plan[place] in b" -|" and place // (2 * wide + 2) % 2 != place % (2 * wide + 2) % 2
                for sign in set(signs) - {plan[place]}:
                    if side and sign in b" -|":
                        self.told(changed(plan, place, sign))
                    else:
                        self.refused(changed(plan, place, sign), -9)

    def test_a_way_through_every_square_and_one_sign_changed(self):
        plan = draw(10, 10, [], snake(10, 10))
        for place, byte in enumerate(plan):
            if byte in b".AB":
                self.refused(changed(plan, place, 32), -9)


class NothingKept(Readers):
    PLANS = (
        SMALL, LARGE, draw(2, 1, [], [0, 1]), draw(2, 1, []), draw(10, 10, [], snake(10, 10)),
        SMALL[:-1], SMALL + SMALL, [], [43] * 1024, [43] * 1025, sheet("+-+-+", "|A..|", "+-+-+"),
    )

    def test_what_is_handed_in_stays(self):
        for call, plan in product(READERS, self.PLANS):
            handed = list(plan)
            answer = call(handed)
            self.assertEqual(handed, plan)
            self.assertIsNot(answer, handed)

    def test_what_is_handed_in_is_not_changed_for_a_while_either(self):
        for call, plan in product(READERS, self.PLANS):
            self.assertEqual(call(Untouched(plan)), call(plan))

    def test_the_same_answer_whenever_called(self):
        calls = list(product(READERS, self.PLANS))
        first = [call(plan) for call, plan in calls]
        for turn in range(3):
            again = [call(plan) for call, plan in reversed(calls)]
            self.assertEqual(again[::-1], first)

    def test_an_answer_changed_changes_no_later_one(self):
        for call, plan in product(READERS, self.PLANS):
            answer = call(plan)
            kept = list(answer)
            answer.clear()
            self.assertEqual(call(plan), kept)

    def test_answers_are_ints(self):
        for call, plan in product(READERS, self.PLANS):
            answer = call(plan)
            self.assertIs(type(answer), list)
            self.assertEqual({type(number) for number in answer}, {int})


if __name__ == "__main__":
    unittest.main()
