"""Point 13: which visits are fair."""

import copy
import itertools
import random
import unittest

from ticketroom.judging import fair

NEVER = float("inf")


def every_visit(times):
    """Every visit with places below that, rising, with None anywhere but for hand and wanted."""
    places = [None] + list(range(times))
    found = []
    for wanted in range(times):
        for lowered, entered, left in itertools.product(places, repeat=3):
            told = [place for place in (lowered, entered, left) if place is not None]
            behind = [place for place in told if place > wanted]
            if told == behind == sorted(told) and (left is None or told.count(left) == 1):
                for ticket in (None, 1):
                    found.append((0, wanted, lowered, ticket, entered, left))
    return found


def never_where_none(place):
    return NEVER if place is None else place


def fair_by_times(visits):
    """The same by other means: what hasn't been comes later than all that has."""
    for one, other in itertools.permutations(visits, 2):
        wanted, entered = one[1], never_where_none(one[4])
        lowered, other_entered, other_left = [never_where_none(place) for place in (other[2], other[4], other[5])]
        if entered < NEVER and lowered < wanted and entered < min(other_entered, other_left):
            return False
        if other_entered <= entered < NEVER and other_left > entered:
            return False
    return True


def both_ways(one, other):
    return (fair([one, other]), fair([other, one]))


class OneAtATime(unittest.TestCase):
    def test_no_visit_and_one_visit(self):
        self.assertIs(fair([]), True)
        for visit in every_visit(5):
            self.assertIs(fair([visit]), True)

    def test_left_ahead_of_the_other_ones_entering(self):
        self.assertEqual(both_ways((0, 0, 1, 1, 2, 3), (1, 2, 3, 2, 4, 5)), (True, True))
        self.assertEqual(both_ways((0, 0, 1, 1, 2, 3), (1, 2, 3, 2, 4, None)), (True, True))

    def test_left_by_the_very_deed_of_the_entering(self):
        self.assertEqual(both_ways((0, 0, 2, 1, 2, 5), (1, 1, 2, 2, 5, 6)), (True, True))
        self.assertEqual(both_ways((0, 0, 2, 1, 2, 5), (1, 1, 2, 2, 4, 6)), (False, False))

    def test_left_behind_the_other_ones_entering(self):
        self.assertEqual(both_ways((0, 0, 2, 1, 3, 9), (1, 1, 2, 2, 4, 5)), (False, False))
        self.assertEqual(both_ways((0, 0, 2, 1, 3, 9), (1, 1, 2, 2, 8, None)), (False, False))

    def test_not_left_at_all(self):
        self.assertEqual(both_ways((0, 0, 2, 1, 3, None), (1, 1, 2, 2, 4, 5)), (False, False))
        self.assertEqual(both_ways((0, 0, 2, 1, 3, None), (1, 1, 2, 2, 4, None)), (False, False))

    def test_entered_by_the_same_deed(self):
        self.assertEqual(both_ways((0, 0, 2, 1, 3, 4), (1, 1, 2, 2, 3, 4)), (False, False))
        self.assertEqual(both_ways((0, 0, 2, 1, 3, None), (1, 1, 2, 2, 3, 4)), (False, False))

    def test_the_same_visit_twice(self):
        self.assertIs(fair([(0, 0, 1, 1, 2, 3)] * 2), False)
        self.assertIs(fair([(0, 0, 1, 1, None, 3)] * 2), True)

    def test_who_didnt_enter_is_in_nobodys_way(self):
        self.assertEqual(both_ways((0, 0, 2, 1, 3, None), (1, 1, 2, 2, None, None)), (True, True))
        self.assertEqual(both_ways((0, 0, 2, 1, None, None), (1, 1, 2, 2, None, None)), (True, True))

    def test_lowered_or_ticket_not_told(self):
        self.assertEqual(both_ways((0, 0, None, None, 3, 7), (1, 1, None, None, 5, 6)), (False, False))
        self.assertEqual(both_ways((0, 0, None, None, 3, 5), (1, 1, None, None, 5, 6)), (True, True))


class NobodyPassed(unittest.TestCase):
    def test_who_had_lowered_enters_first(self):
        self.assertEqual(both_ways((0, 0, 1, 1, 3, 4), (1, 2, 3, 2, 5, 6)), (True, True))
        self.assertEqual(both_ways((0, 0, 1, 1, 5, 6), (1, 2, 3, 2, 3, 4)), (False, False))

    def test_lowered_behind_the_other_ones_wanting(self):
        self.assertEqual(both_ways((0, 0, 3, 1, 5, 6), (1, 2, 3, 2, 3, 4)), (True, True))

    def test_lowered_by_the_very_deed_of_the_wanting(self):
        self.assertEqual(both_ways((0, 0, 2, 1, 5, 6), (1, 2, 3, 2, 3, 4)), (True, True))

    def test_who_had_lowered_waits_still(self):
        self.assertEqual(both_ways((0, 0, 1, 1, None, None), (1, 2, 3, 2, 3, 4)), (False, False))
        self.assertEqual(both_ways((0, 0, 1, 1, None, None), (1, 2, 3, 2, 3, None)), (False, False))
        self.assertEqual(both_ways((0, 0, 1, 1, None, None), (1, 2, 3, 2, None, None)), (True, True))

    def test_who_had_lowered_left_its_way(self):
        for left, is_fair in ((3, True), (4, True), (5, False), (6, False)):
            self.assertEqual(both_ways((0, 0, 1, 1, None, left), (1, 2, 3, 2, 4, None)), (is_fair, is_fair))

    def test_who_had_lowered_left_between_the_wanting_and_the_entering(self):
        self.assertIs(fair([(0, 0, 1, 1, None, 5), (1, 3, 4, 2, 8, 9)]), True)
        self.assertIs(fair([(0, 0, 1, 1, None, 2), (1, 3, 4, 2, 8, 9)]), True)

    def test_who_hadnt_lowered_may_be_passed(self):
        self.assertEqual(both_ways((0, 0, None, 1, None, None), (1, 2, 3, 2, 3, 4)), (True, True))
        self.assertEqual(both_ways((0, 0, None, None, 5, None), (1, 2, 3, 2, 3, 4)), (True, True))

    def test_tickets_and_hands_dont_count(self):
        for ticket, other_ticket in ((1, 2), (2, 1), (None, 1), (3, None), (None, None), (10 ** 99, 1)):
            for hand, other in ((0, 1), (1, 0), (0, 0), (10 ** 99, 4)):
                self.assertIs(fair([(hand, 0, 1, ticket, 3, 4), (other, 2, 3, other_ticket, 5, 6)]), True)
                self.assertIs(fair([(hand, 0, 1, ticket, 5, 6), (other, 2, 3, other_ticket, 3, 4)]), False)

    def test_great_places(self):
        great = 10 ** 99
        self.assertIs(fair([(0, great, great + 1, 1, great + 3, great + 4),
                            (1, great + 2, great + 3, 2, great + 4, None)]), True)
        self.assertIs(fair([(0, great, great + 1, 1, great + 3, great + 5),
                            (1, great + 2, great + 3, 2, great + 4, None)]), False)


class Lists(unittest.TestCase):
    def test_every_two_visits(self):
        found = {True: 0, False: 0}
        for one, other in itertools.product(every_visit(5), repeat=2):
            is_fair = fair([one, other])
            self.assertIs(is_fair, fair_by_times([one, other]), (one, other))
            found[is_fair] += 1
        self.assertGreater(min(found.values()), 1000)

    def test_longer_lists(self):
        chance = random.Random(13)
        among = every_visit(8)
        found = {True: 0, False: 0}
        for many in range(3000):
            visits = [chance.choice(among) for visit in range(chance.randrange(2, 7))]
            is_fair = fair(visits)
            self.assertIs(is_fair, fair_by_times(visits), visits)
            found[is_fair] += 1
        self.assertGreater(min(found.values()), 300)

    def test_one_unfair_pair_among_two_hundred(self):
        visits = [(place % 20, 4 * place, 4 * place + 1, 1, 4 * place + 2, 4 * place + 3) for place in range(200)]
        self.assertIs(fair(visits), True)
        for first, second in ((0, 1), (0, 199), (198, 199), (70, 140)):
            together = list(visits)
            together[first] = together[first][:5] + (4 * second + 3,)
            if second > first + 1:
                together[first + 1:second] = []
            self.assertIs(fair(together), False)
            self.assertIs(fair(together[::-1]), False)
            self.assertIs(fair(together[:first] + together[first + 1:]), True)

    def test_the_visits_are_as_they_were(self):
        for visits in ([(0, 0, 1, 1, 3, 4), (1, 2, 3, 2, 5, 6)], [(1, 2, 3, 2, 3, 4), (0, 0, 1, 1, 5, 6)]):
            kept = copy.deepcopy(visits)
            fair(visits)
            self.assertEqual(visits, kept)


if __name__ == "__main__":
    unittest.main()
