"""Point 14: visits written as lines, and read back."""

import copy
import itertools
import random
import re
import unittest

from ticketroom.errors import NoLine
from ticketroom.lines import read, shown

GREAT = 10 ** 99 + 7

FORMS = (
    ("0 wants 0", (0, 0, None, None, None, None)),
    ("1 wants 4", (1, 4, None, None, None, None)),
    ("1 wants 4 leaves 5", (1, 4, None, None, None, 5)),
    ("3 wants 10 draws 1", (3, 10, None, 1, None, None)),
    ("0 wants 6 draws 2 leaves 7", (0, 6, None, 2, None, 7)),
    ("2 wants 0 draws 1 lowers 1", (2, 0, 1, 1, None, None)),
    ("2 wants 0 draws 1 lowers 3 leaves 4", (2, 0, 3, 1, None, 4)),
    ("2 wants 0 draws 1 lowers 3 enters 3", (2, 0, 3, 1, 3, None)),
    ("2 wants 0 draws 1 lowers 3 enters 4", (2, 0, 3, 1, 4, None)),
    ("2 wants 0 draws 1 lowers 3 enters 3 leaves 5", (2, 0, 3, 1, 3, 5)),
    ("2 wants 0 draws 1 lowers 3 enters 8 leaves 9", (2, 0, 3, 1, 8, 9)),
    ("19 wants 20 draws 300 lowers 21 enters 100 leaves 101", (19, 20, 21, 300, 100, 101)),
)

A_NUMBER = "(0|[1-9][0-9]*)"
A_LINE = re.compile(f"{A_NUMBER} wants {A_NUMBER}(?: draws {A_NUMBER})?(?: lowers {A_NUMBER})?"
                    f"(?: enters {A_NUMBER})?(?: leaves {A_NUMBER})?")


def read_by_pattern(line):
    """The visit of one line by other means; None where it is none."""
    found = A_LINE.fullmatch(line)
    if found is None:
        return None
    hand, wanted, ticket, lowered, entered, left = [None if part is None else int(part) for part in found.groups()]
    latest = max(place for place in (wanted, lowered, entered) if place is not None)
    holds = [
        ticket is None or ticket > 0,
        lowered is None or (ticket is not None and lowered > wanted),
        entered is None or (lowered is not None and entered >= lowered),
        left is None or left > latest,
    ]
    return (hand, wanted, lowered, ticket, entered, left) if all(holds) else None


def read_or_none(line):
    try:
        return read([line])[0]
    except NoLine:
        return None


class Shown(unittest.TestCase):
    def test_each_form(self):
        for line, visit in FORMS:
            self.assertEqual(shown([visit]), [line])

    def test_a_list_of_them(self):
        visits = [(2, 0, 3, 1, 3, 5), (1, 4, None, None, None, None), (0, 6, None, 2, None, 7)]
        self.assertEqual(shown(visits), [
            "2 wants 0 draws 1 lowers 3 enters 3 leaves 5", "1 wants 4", "0 wants 6 draws 2 leaves 7"])

    def test_no_visit(self):
        self.assertEqual(shown([]), [])

    def test_great_numbers(self):
        visit = (GREAT, GREAT + 1, GREAT + 2, GREAT + 3, GREAT + 4, GREAT + 5)
        self.assertEqual(shown([visit]), [
            f"{GREAT} wants {GREAT + 1} draws {GREAT + 3} lowers {GREAT + 2} enters {GREAT + 4} leaves {GREAT + 5}"])

    def test_the_visits_are_as_they_were(self):
        visits = [visit for line, visit in FORMS]
        kept = copy.deepcopy(visits)
        shown(visits)
        self.assertEqual(visits, kept)


class Read(unittest.TestCase):
    def test_each_form(self):
        for line, visit in FORMS:
            self.assertEqual(read([line]), [visit])

    def test_a_list_of_them(self):
        lines = ["2 wants 0 draws 1 lowers 3 enters 3 leaves 5", "1 wants 4", "0 wants 6 draws 2 leaves 7"]
        kept = list(lines)
        visits = read(lines)
        self.assertEqual(visits, [(2, 0, 3, 1, 3, 5), (1, 4, None, None, None, None), (0, 6, None, 2, None, 7)])
        self.assertEqual([type(visit) for visit in visits], [tuple] * 3)
        self.assertEqual(lines, kept)

    def test_no_line(self):
        self.assertEqual(read([]), [])

    def test_great_numbers(self):
        visit = (GREAT, GREAT + 1, GREAT + 2, GREAT + 3, GREAT + 4, GREAT + 5)
        self.assertEqual(len(str(GREAT)), 100)
        self.assertEqual(read(shown([visit])), [visit])
        self.assertEqual(read([f"{10 ** 110} wants {10 ** 120}"]), [(10 ** 110, 10 ** 120, None, None, None, None)])

    def test_two_hundred_lines(self):
        visits = [(place % 7, 3 * place, 3 * place + 1, 200 - place, 3 * place + 1, None) for place in range(200)]
        self.assertEqual(read(shown(visits)), visits)

    def test_whoever_makes_them_and_whatever_tickets_they_have(self):
        visits = [(5, 0, 9, 7, 9, None), (5, 1, 4, 7, 9, None), (5, 2, None, 1, None, 3), (0, 3, 4, 99, 4, 5)]
        self.assertEqual(read(shown(visits)), visits)


class Refused(unittest.TestCase):
    def refuse(self, line):
        with self.assertRaises(NoLine, msg=repr(line)):
            read([line])
        with self.assertRaises(NoLine, msg=repr(line)):
            read(["0 wants 0", "1 wants 1", line])

    def test_a_first_nought(self):
        for line in ("02 wants 4", "2 wants 04", "2 wants 00", "00 wants 4", "2 wants 4 draws 01",
                     "2 wants 4 draws 1 lowers 05", "2 wants 4 draws 1 lowers 5 enters 06",
                     "2 wants 4 draws 1 lowers 5 enters 6 leaves 07"):
            self.refuse(line)

    def test_a_sign(self):
        for line in ("+2 wants 4", "-2 wants 4", "-0 wants 4", "2 wants +4", "2 wants -4", "2 wants -0",
                     "2 wants 4 draws +1", "2 wants 4 draws -1", "2 wants 4 leaves +5", "2 wants 4 leaves -5"):
            self.refuse(line)

    def test_what_is_no_number(self):
        for line in ("x wants 4", "2 wants x", "2 wants 4 draws one", "2 wants 4.0", "2 wants 4e1", "2 wants 0x4",
                     "2 wants 1_0", "2 wants None", "2 wants 4 leaves None", "2 wants 4 draws 1,000"):
            self.refuse(line)

    def test_blanks_too_many(self):
        for line in (" 2 wants 4", "2 wants 4 ", "2  wants 4", "2 wants  4", "  2 wants 4", "2 wants 4  ",
                     "2 wants 4 draws 1 ", "2 wants 4  draws 1", " 2 wants 4 ", "2 wants 4 draws  1"):
            self.refuse(line)

    def test_blanks_of_another_sort(self):
        for blank in ("\t", "\n", "\r", "\f", "\v", "\u00a0", "\u2003", "\u3000", "\x00", "\x1c"):
            for line in (f"2{blank}wants 4", f"2 wants{blank}4", f"{blank}2 wants 4", f"2 wants 4{blank}",
                         f"2 wants 4{blank}leaves 5"):
                self.refuse(line)

    def test_blanks_too_few(self):
        for line in ("2wants 4", "2 wants4", "2wants4", "2 wants 4draws 1", "2 wants 4 draws1"):
            self.refuse(line)

    def test_nothing_and_blanks_alone(self):
        for line in ("", " ", "  ", "\n", "\t"):
            self.refuse(line)

    def test_a_word_twice(self):
        for line in ("2 wants 4 wants 4", "2 wants 4 wants 5", "2 wants 4 draws 1 draws 1",
                     "2 wants 4 draws 1 lowers 5 lowers 5", "2 wants 4 draws 1 lowers 5 enters 5 enters 5",
                     "2 wants 4 leaves 5 leaves 5", "2 wants 4 leaves 5 leaves 6"):
            self.refuse(line)

    def test_a_word_left_out(self):
        for line in ("2", "2 4", "wants 4", "2 wants", "2 draws 1", "2 leaves 5", "2 draws 1 lowers 5",
                     "2 wants 4 1", "2 wants 4 draws", "2 wants 4 draws 1 5", "2 wants 4 draws 1 lowers",
                     "2 wants draws 1", "wants", "4 2", "2 wants 4 draws 1 enters 5",
                     "2 wants 4 draws 1 enters 5 leaves 6", "2 wants 4 enters 5", "2 wants 4 enters 5 leaves 6"):
            self.refuse(line)

    def test_words_in_another_order(self):
        pairs = ("wants 4", "draws 1", "lowers 5", "enters 5", "leaves 6")
        for order in itertools.permutations(pairs):
            line = " ".join(("2",) + order)
            if order == pairs:
                self.assertEqual(read([line]), [(2, 4, 5, 1, 5, 6)])
            else:
                self.refuse(line)

    def test_other_words(self):
        for line in ("2 Wants 4", "2 WANTS 4", "2 want 4", "2 wantss 4", "2 wants 4 draw 1", "2 wants 4 goes 5",
                     "2 wants 4 left 5", "2 wants 4 ticket 1", "2 wants 4 # 5", "2 wants 4 leaves 5 x 6",
                     "2 wants 4, leaves 5", "hand 2 wants 4", "2 wants 4.", "2 begins 4"):
            self.refuse(line)

    def test_a_ticket_of_nought(self):
        for line in ("2 wants 4 draws 0", "2 wants 4 draws 0 lowers 5", "2 wants 4 draws 0 leaves 5",
                     "2 wants 4 draws 0 lowers 5 enters 5 leaves 6"):
            self.refuse(line)

    def test_lowered_without_a_ticket(self):
        for line in ("2 wants 4 lowers 5", "2 wants 4 lowers 5 enters 5", "2 wants 4 lowers 5 enters 5 leaves 6",
                     "2 wants 4 lowers 5 leaves 6"):
            self.refuse(line)

    def test_lowered_not_behind_the_wanting(self):
        for line in ("2 wants 4 draws 1 lowers 4", "2 wants 4 draws 1 lowers 3", "2 wants 4 draws 1 lowers 0",
                     "2 wants 4 draws 1 lowers 4 enters 5", "2 wants 4 draws 1 lowers 4 enters 5 leaves 6",
                     "2 wants 10 draws 1 lowers 9"):
            self.refuse(line)

    def test_entered_ahead_of_the_lowering(self):
        for line in ("2 wants 4 draws 1 lowers 6 enters 5", "2 wants 4 draws 1 lowers 6 enters 5 leaves 7",
                     "2 wants 4 draws 1 lowers 6 enters 4", "2 wants 4 draws 1 lowers 6 enters 0",
                     "2 wants 4 draws 1 lowers 10 enters 9"):
            self.refuse(line)

    def test_left_not_behind_all_that(self):
        for line in ("2 wants 4 leaves 4", "2 wants 4 leaves 3", "2 wants 4 leaves 0", "2 wants 4 draws 9 leaves 4",
                     "2 wants 4 draws 1 lowers 6 leaves 6", "2 wants 4 draws 1 lowers 6 leaves 5",
                     "2 wants 4 draws 1 lowers 6 enters 8 leaves 8", "2 wants 4 draws 1 lowers 6 enters 8 leaves 7",
                     "2 wants 4 draws 1 lowers 6 enters 6 leaves 6", "2 wants 4 draws 1 lowers 6 enters 8 leaves 6",
                     "2 wants 10 leaves 9"):
            self.refuse(line)

    def test_figures_of_another_script(self):
        for figure in ("\u0664", "\u00b2", "\u0968", "\uff14", "\u2463", "\u2084", "\u4e03", "\U0001d7d2"):
            for line in (f"{figure} wants 4", f"2 wants {figure}", f"2 wants 4{figure}", f"2 wants {figure}4",
                         f"2 wants 4 draws {figure}", f"2 wants 4 draws 1 lowers {figure}",
                         f"2 wants 3 draws 1 lowers 4 enters {figure}", f"2 wants 3 leaves {figure}"):
                self.refuse(line)

    def test_great_numbers_that_are_none(self):
        self.refuse(f"0{GREAT} wants 4")
        self.refuse(f"2 wants -{GREAT}")
        self.refuse(f"2 wants {GREAT} leaves {GREAT}")
        self.refuse(f"2 wants {GREAT} draws 1 lowers {GREAT - 1}")

    def test_the_wanted_dont_rise(self):
        for lines in (["0 wants 4", "1 wants 4"], ["0 wants 4", "1 wants 3"], ["0 wants 4", "0 wants 4"],
                      ["0 wants 1", "1 wants 4", "2 wants 2"], ["0 wants 4", "1 wants 5", "2 wants 5"],
                      ["0 wants 9", "1 wants 10", "2 wants 8"], [f"0 wants {GREAT}", f"1 wants {GREAT - 1}"],
                      ["0 wants 0", "0 wants 0"]):
            with self.assertRaises(NoLine):
                read(lines)
        self.assertEqual(len(read(["0 wants 9", "1 wants 10", "2 wants 11"])), 3)

    def test_one_wrong_line_anywhere(self):
        lines = [f"0 wants {place}" for place in range(200)]
        self.assertEqual(len(read(lines)), 200)
        for place in (0, 1, 100, 199):
            with self.assertRaises(NoLine):
                read(lines[:place] + [lines[place] + " "] + lines[place + 1:])
            with self.assertRaises(NoLine):
                read(lines[:place] + [""] + lines[place:])
        self.assertEqual(lines, [f"0 wants {place}" for place in range(200)])


class Changed(unittest.TestCase):
    """Lines changed a little are read by a pattern too, and both must come to the same."""

    def test_every_small_visit(self):
        found = 0
        for wanted, ticket, lowered, entered, left in itertools.product((0, 1, 2), *[(None, 0, 1, 2, 3)] * 4):
            named = (("draws", ticket), ("lowers", lowered), ("enters", entered), ("leaves", left))
            line = " ".join([f"7 wants {wanted}"] + [f"{word} {said}" for word, said in named if said is not None])
            visit = read_or_none(line)
            self.assertEqual(visit, read_by_pattern(line), line)
            if visit is not None:
                found += 1
                self.assertEqual(shown([visit]), [line])
        self.assertGreater(found, 50)

    def test_signs_taken_out_put_in_and_changed(self):
        for line, visit in FORMS:
            for place in range(len(line) + 1):
                for sign in (" ", "0", "1", "9", "-", "w", "\n", "\u0661", "s"):
                    for changed in (line[:place] + sign + line[place:], line[:place] + sign + line[place + 1:]):
                        self.assertEqual(read_or_none(changed), read_by_pattern(changed), repr(changed))
                changed = line[:place] + line[place + 1:]
                self.assertEqual(read_or_none(changed), read_by_pattern(changed), repr(changed))

    def test_parts_taken_out_put_in_and_changed(self):
        chance = random.Random(14)
        found = {True: 0, False: 0}
        among = ["wants", "draws", "lowers", "enters", "leaves", "0", "1", "2", "3", "4", "5", "10", ""]
        for many in range(6000):
            parts = chance.choice(FORMS)[0].split(" ")
            for change in range(chance.randrange(1, 3)):
                place = chance.randrange(len(parts))
                parts[place:place + chance.randrange(3)] = [chance.choice(among)][:chance.randrange(2)]
                parts = parts or [""]
            changed = " ".join(parts)
            self.assertEqual(read_or_none(changed), read_by_pattern(changed), repr(changed))
            found[read_or_none(changed) is None] += 1
        self.assertGreater(min(found.values()), 200)


if __name__ == "__main__":
    unittest.main()
