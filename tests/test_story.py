"""Points 2 to 5, 11 and 12, through the functions of a story."""

import copy
import unittest

from ticketroom.story import all_after, answers

from helper import NO_HANDS, ON_THE_WAY

OUT = (False, 0, "out")


def last_answer(count, deeds):
    return answers(count, deeds)[-1]


def visits_after(count, deeds):
    return all_after(count, deeds)[0]


def hands_after(count, deeds):
    return all_after(count, deeds)[1]


class Beginning(unittest.TestCase):
    """Point 2."""

    def test_no_deed_at_all(self):
        for count in (1, 2, 3, 20):
            self.assertEqual(answers(count, []), [])
            self.assertEqual(all_after(count, []), ([], [OUT] * count))

    def test_the_kinds_of_what_is_told(self):
        told = all_after(2, [("want", 0), ("go", 0, 1)])
        self.assertIs(type(told), tuple)
        self.assertEqual([type(part) for part in told], [list, list])
        self.assertEqual([type(visit) for visit in told[0]], [tuple])
        self.assertEqual([type(hand) for hand in told[1]], [tuple, tuple])
        self.assertEqual([type(value) for value in told[1][0]], [bool, int, str])
        self.assertEqual([type(value) for value in told[1][1]], [bool, int, str])

    def test_one_flag_and_one_ticket_for_each_hand(self):
        deeds = [("want", 1), ("go", 1, 1)]
        self.assertEqual(hands_after(4, deeds), [OUT, (True, 0, "looks"), OUT, OUT])
        deeds = [("want", 3), ("go", 3, 5), ("want", 0)]
        self.assertEqual(hands_after(4, deeds), [(False, 0, "begins"), OUT, OUT, (True, 1, "lowers")])


class Steps(unittest.TestCase):
    """Points 3 and 4."""

    def goes(self, count, ahead, hand, steps):
        """Each step is one deed: what it answers, and where the hand is behind it."""
        deeds = list(ahead)
        for done, after in steps:
            deeds.append(("go", hand, 1))
            self.assertEqual(last_answer(count, deeds), [done])
            self.assertEqual(hands_after(count, deeds)[hand], after)

    def test_one_hand_alone(self):
        self.assertEqual(hands_after(1, [("want", 0)]), [(False, 0, "begins")])
        self.goes(1, [("want", 0)], 0, [
            (("begins", None, None), (True, 0, "draws")),
            (("draws", None, 1), (True, 1, "lowers")),
            (("lowers", None, None), (False, 1, "enters")),
            (("enters", None, 1), (False, 1, "within"))])

    def test_the_way_of_one_of_three(self):
        self.goes(3, [("want", 1)], 1, [
            (("begins", None, None), (True, 0, "looks")),
            (("looks", 0, 0), (True, 0, "looks")),
            (("looks", 2, 0), (True, 0, "draws")),
            (("draws", None, 1), (True, 1, "lowers")),
            (("lowers", None, None), (False, 1, "asks")),
            (("asks", 0, 0), (False, 1, "sees")),
            (("sees", 0, 0), (False, 1, "asks")),
            (("asks", 2, 0), (False, 1, "sees")),
            (("sees", 2, 0), (False, 1, "enters")),
            (("enters", None, 1), (False, 1, "within"))])

    def test_the_others_are_looked_at_by_their_numbers(self):
        for hand in range(4):
            others = [other for other in range(4) if other != hand]
            done = last_answer(4, [("want", hand), ("go", hand, 100)])
            for word in ("looks", "asks", "sees"):
                self.assertEqual([other for said, other, saw in done if said == word], others)

    def test_a_ticket_is_one_more_than_the_greatest_seen(self):
        deeds = [("want", 0), ("go", 0, 6), ("want", 3), ("go", 3, 6), ("want", 2), ("go", 2, 6),
                 ("leave", 0), ("want", 1), ("go", 1, 5)]
        self.assertEqual(last_answer(4, deeds), [
            ("begins", None, None), ("looks", 0, 0), ("looks", 2, 3), ("looks", 3, 2), ("draws", None, 4)])

    def test_what_an_earlier_visit_saw_is_forgotten(self):
        deeds = [("want", 0), ("go", 0, 9), ("want", 1), ("go", 1, 9), ("leave", 0), ("leave", 1), ("want", 1),
                 ("go", 1, 3)]
        self.assertEqual(last_answer(2, deeds)[2], ("draws", None, 1))

    def test_what_was_seen_counts_though_it_is_laid_down_since(self):
        deeds = [("want", 0), ("go", 0, 9), ("want", 1), ("go", 1, 2), ("leave", 0), ("go", 1, 1)]
        self.assertEqual(answers(2, deeds)[3:], [[("begins", None, None), ("looks", 0, 1)], 1, [("draws", None, 2)]])

    def test_asking_again_while_a_flag_is_up(self):
        ahead = [("want", 0), ("go", 0, 1), ("want", 2), ("go", 2, 5)]
        self.goes(3, ahead, 2, [(("asks", 0, 1), (False, 1, "asks"))] * 3)
        deeds = ahead + [("go", 2, 4), ("go", 0, 4), ("go", 2, 3)]
        self.assertEqual(answers(3, deeds)[4:], [
            [("asks", 0, 1)] * 4,
            [("looks", 1, 0), ("looks", 2, 1), ("draws", None, 2), ("lowers", None, None)],
            [("asks", 0, 0), ("sees", 0, 2), ("asks", 1, 0)]])

    def test_looking_again_while_a_ticket_goes_first(self):
        ahead = [("want", 1), ("go", 1, 100), ("want", 0), ("go", 0, 6)]
        self.goes(3, ahead, 0, [(("sees", 1, 1), (False, 2, "sees"))] * 3)
        deeds = ahead + [("go", 0, 2), ("leave", 1), ("go", 0, 100)]
        self.assertEqual(answers(3, deeds)[4:], [
            [("sees", 1, 1)] * 2, 1, [("sees", 1, 0), ("asks", 2, 0), ("sees", 2, 0), ("enters", None, 2)]])

    def test_behind_a_flag_that_was_down_the_flag_isnt_asked_again(self):
        deeds = [("want", 0), ("go", 0, 4), ("want", 1), ("go", 1, 1), ("go", 0, 2)]
        self.assertEqual(answers(2, deeds)[4], [("asks", 1, 1)] * 2)
        deeds = [("want", 0), ("go", 0, 5), ("want", 1), ("go", 1, 1), ("go", 0, 2)]
        self.assertEqual(answers(2, deeds)[4], [("sees", 1, 0), ("enters", None, 1)])

    def test_of_the_same_ticket_the_lesser_number_goes_first(self):
        ahead = [("want", 2), ("want", 0), ("go", 2, 3), ("go", 0, 3), ("go", 2, 2), ("go", 0, 2)]
        self.assertEqual([ticket for flag, ticket, word in hands_after(3, ahead)], [1, 0, 1])
        self.assertEqual(answers(3, ahead + [("go", 2, 4)])[6], [("asks", 0, 0)] + [("sees", 0, 1)] * 3)
        self.assertEqual(answers(3, ahead + [("go", 0, 100)])[6], [
            ("asks", 1, 0), ("sees", 1, 0), ("asks", 2, 0), ("sees", 2, 1), ("enters", None, 1)])

    def test_a_lesser_ticket_goes_first_whatever_the_numbers(self):
        for first, second in ((0, 1), (1, 0)):
            deeds = [("want", first), ("go", first, 4), ("want", second), ("go", second, 7), ("go", first, 100)]
            self.assertEqual(answers(2, deeds)[3][4:], [("asks", first, 0), ("sees", first, 1), ("sees", first, 1)])
            self.assertEqual(answers(2, deeds)[4], [("asks", second, 0), ("sees", second, 2), ("enters", None, 1)])


class Leaving(unittest.TestCase):
    """Point 5."""

    def test_leaving_at_each_word_and_wanting_in_again(self):
        words = []
        for many in range(11):
            ahead = [("want", 1), ("go", 1, many)]
            flag, ticket, word = hands_after(3, ahead)[1]
            words.append(word)
            deeds = ahead + [("leave", 1)]
            self.assertEqual(last_answer(3, deeds), ticket)
            self.assertEqual(ticket, 1 if many >= 4 else 0)
            self.assertEqual(hands_after(3, deeds), [OUT] * 3)
            deeds.append(("want", 1))
            self.assertEqual(last_answer(3, deeds), 1)
            self.assertEqual(hands_after(3, deeds)[1], (False, 0, "begins"))
            self.assertEqual(answers(3, deeds + [("go", 1, 100)])[4], answers(3, [("want", 1), ("go", 1, 100)])[1])
        self.assertEqual(set(words), set(ON_THE_WAY) | {"within"})

    def test_leaving_changes_the_one_hand_alone(self):
        ahead = [("want", 0), ("go", 0, 100), ("want", 1), ("go", 1, 7), ("want", 2), ("go", 2, 2)]
        before = hands_after(3, ahead)
        for hand in range(3):
            after = hands_after(3, ahead + [("leave", hand)])
            self.assertEqual(after, before[:hand] + [OUT] + before[hand + 1:])

    def test_the_ticket_that_it_had(self):
        ahead = [("want", 0), ("go", 0, 100), ("want", 1), ("go", 1, 7), ("want", 2), ("go", 2, 2)]
        self.assertEqual(answers(3, ahead + [("leave", 1), ("leave", 2), ("leave", 0)])[6:], [2, 0, 1])


class Answers(unittest.TestCase):
    """Point 11."""

    def test_the_place_of_the_visit(self):
        deeds = [("want", 2), ("want", 0), ("leave", 2), ("want", 2), ("want", 9), ("want", 0), ("want", 1)]
        self.assertEqual(answers(3, deeds), [0, 1, 0, 2, "no hand", "on its way", 3])

    def test_going_nought_steps(self):
        for many in range(10):
            ahead = [("want", 1), ("go", 1, many)]
            self.assertEqual(last_answer(3, ahead + [("go", 1, 0)]), [])
            self.assertEqual(all_after(3, ahead + [("go", 1, 0)]), all_after(3, ahead))

    def test_so_many_steps(self):
        whole = last_answer(3, [("want", 0), ("go", 0, 10)])
        for many in range(11):
            self.assertEqual(answers(3, [("want", 0), ("go", 0, many), ("go", 0, 10 - many)])[1], whole[:many])

    def test_no_more_steps_than_are_needed(self):
        for many in (10, 11, 100, 150):
            done = last_answer(3, [("want", 0), ("go", 0, many)])
            self.assertEqual((len(done), done[-1]), (10, ("enters", None, 1)))

    def test_a_hundred_steps_that_come_to_nothing(self):
        ahead = [("want", 0), ("go", 0, 100), ("want", 1), ("go", 1, 5)]
        self.assertEqual(last_answer(2, ahead + [("go", 1, 100)]), [("sees", 0, 1)] * 100)

    def test_a_round_where_all_are_out(self):
        self.assertEqual(answers(3, [("round",)] * 2), [[], []])
        self.assertEqual(all_after(3, [("round",)] * 2), ([], [OUT] * 3))

    def test_a_round_is_one_step_of_each_that_is_on_its_way(self):
        deeds = [("want", 0), ("want", 2), ("round",)]
        self.assertEqual(hands_after(3, deeds), [(True, 0, "looks"), OUT, (True, 0, "looks")])

    def test_a_round_tells_who_went_in_by_it(self):
        ahead = [("want", 1), ("go", 1, 8)]
        self.assertEqual(answers(3, ahead + [("round",)] * 4)[2:], [[], [1], [], []])
        self.assertEqual(hands_after(3, ahead + [("round",)] * 2)[1], (False, 1, "within"))
        self.assertEqual(hands_after(3, ahead + [("round",)] * 3)[1], OUT)

    def test_who_is_within_goes_out_by_a_round(self):
        self.assertEqual(hands_after(2, [("want", 1), ("go", 1, 100), ("round",)]), [OUT, OUT])

    def test_each_acts_on_what_those_ahead_of_it_in_the_round_have_done(self):
        inside = [("want", 0), ("go", 0, 100), ("want", 1), ("go", 1, 6), ("round",)]
        self.assertEqual(hands_after(2, inside), [OUT, (False, 2, "enters")])
        inside = [("want", 1), ("go", 1, 100), ("want", 0), ("go", 0, 6), ("round",)]
        self.assertEqual(hands_after(2, inside), [(False, 2, "sees"), OUT])
        flags = [("want", 0), ("want", 1), ("go", 1, 4), ("round",)]
        self.assertEqual(hands_after(2, flags), [(True, 0, "looks"), (False, 1, "asks")])

    def test_a_round_of_twenty(self):
        deeds = [("want", hand) for hand in range(20)] + [("round",)] * 62
        said = answers(20, deeds)
        self.assertEqual(said[:20], list(range(20)))
        self.assertEqual(hands_after(20, deeds[:21]), [(True, 0, "looks")] * 20)
        self.assertTrue(all(type(went_in) is list for went_in in said[20:]))
        self.assertEqual(sum(said[20:], []), [0])


class Refusals(unittest.TestCase):
    """Point 11, wrong deeds."""

    def refused(self, count, ahead, deed, text):
        self.assertEqual(last_answer(count, ahead + [deed]), text)
        visits, hands = all_after(count, ahead)
        self.assertEqual(all_after(count, ahead + [deed]), (visits, hands))
        later = answers(count, ahead + [deed, ("round",), ("want", 0), ("go", 0, 50), ("round",)])
        self.assertEqual(later[len(ahead) + 1:],
                         answers(count, ahead + [("round",), ("want", 0), ("go", 0, 50), ("round",)])[len(ahead):])

    def test_a_hand_that_there_isnt(self):
        for count in (1, 2, 20):
            for hand in NO_HANDS + (count, count + 1, -count, -count - 1):
                for ahead in ([], [("want", count - 1)], [("want", 0), ("go", 0, 100)]):
                    self.refused(count, ahead, ("want", hand), "no hand")
                    self.refused(count, ahead, ("go", hand, 5), "no hand")
                    self.refused(count, ahead, ("go", hand, 0), "no hand")
                    self.refused(count, ahead, ("leave", hand), "no hand")

    def test_the_last_hand_is_there(self):
        for count in (1, 2, 20):
            deeds = [("want", count - 1), ("go", count - 1, 1), ("leave", count - 1)]
            self.assertEqual(answers(count, deeds), [0, [("begins", None, None)], 0])

    def test_within(self):
        ahead = [("want", 1), ("go", 1, 100)]
        self.refused(2, ahead, ("want", 1), "within")
        self.refused(2, ahead, ("go", 1, 1), "within")
        self.refused(2, ahead, ("go", 1, 0), "within")
        self.assertEqual(last_answer(2, ahead + [("leave", 1)]), 1)

    def test_on_its_way_at_each_word(self):
        for many in range(10):
            self.refused(3, [("want", 1), ("go", 1, many)], ("want", 1), "on its way")

    def test_out(self):
        for ahead in ([], [("want", 0), ("go", 0, 100)], [("want", 1), ("leave", 1)],
                      [("want", 1), ("go", 1, 100), ("leave", 1)], [("want", 1), ("go", 1, 100), ("round",)]):
            self.refused(2, ahead, ("go", 1, 1), "out")
            self.refused(2, ahead, ("go", 1, 0), "out")
            self.refused(2, ahead, ("leave", 1), "out")

    def test_refused_deeds_count_as_deeds(self):
        wrong = [("leave", 0), ("go", 0, 3), ("want", 7), ("go", -1, 1), ("leave", 2)]
        deeds = (wrong + [("want", 0), ("want", 0), ("go", 0, 3), ("want", 0), ("go", 0, 1)]
                 + [("want", 0), ("go", 0, 100), ("go", 0, 1), ("want", 0), ("leave", 0), ("leave", 0)])
        self.assertEqual(visits_after(2, deeds), [(0, 5, 9, 1, 11, 14)])


class Visits(unittest.TestCase):
    """Point 12."""

    def test_a_visit_as_it_goes_on(self):
        deeds = [("want", 1), ("go", 1, 1), ("go", 1, 2), ("go", 1, 1), ("go", 1, 2), ("go", 1, 1), ("leave", 1)]
        so_far = [(1, 0, None, None, None, None), (1, 0, None, None, None, None), (1, 0, None, 1, None, None),
                  (1, 0, 3, 1, None, None), (1, 0, 3, 1, None, None), (1, 0, 3, 1, 5, None), (1, 0, 3, 1, 5, 6)]
        for many, visit in enumerate(so_far):
            self.assertEqual(visits_after(2, deeds[:many + 1]), [visit])

    def test_lowered_and_entered_by_the_same_deed(self):
        self.assertEqual(visits_after(3, [("want", 2), ("go", 2, 100)]), [(2, 0, 1, 1, 1, None)])
        self.assertEqual(visits_after(1, [("want", 0), ("go", 0, 4), ("leave", 0)]), [(0, 0, 1, 1, 1, 2)])

    def test_left_on_the_way(self):
        for many, visit in ((0, (1, 0, None, None, None, 2)), (3, (1, 0, None, None, None, 2)),
                            (4, (1, 0, None, 1, None, 2)), (5, (1, 0, 1, 1, None, 2)), (9, (1, 0, 1, 1, None, 2))):
            self.assertEqual(visits_after(3, [("want", 1), ("go", 1, many), ("leave", 1)]), [visit])

    def test_all_by_rounds(self):
        deeds = [("want", 0)] + [("round",)] * 6
        self.assertEqual(visits_after(1, deeds), [(0, 0, 3, 1, 4, 5)])
        deeds = [("want", 1), ("want", 0)] + [("round",)] * 20
        self.assertEqual(visits_after(2, deeds), [(1, 0, 5, 1, 10, 11), (0, 1, 5, 1, 8, 9)])

    def test_each_by_a_round_and_the_rest_by_the_hand_itself(self):
        self.assertEqual(visits_after(2, [("want", 0), ("go", 0, 2), ("round",)]), [(0, 0, None, 1, None, None)])
        self.assertEqual(visits_after(2, [("want", 0), ("go", 0, 3), ("round",)]), [(0, 0, 2, 1, None, None)])
        self.assertEqual(visits_after(2, [("want", 0), ("go", 0, 6), ("round",)]), [(0, 0, 1, 1, 2, None)])
        self.assertEqual(visits_after(2, [("want", 0), ("go", 0, 7), ("round",)]), [(0, 0, 1, 1, 1, 2)])
        self.assertEqual(visits_after(2, [("want", 0), ("round",), ("go", 0, 9)]), [(0, 0, 2, 1, 2, None)])

    def test_in_the_order_in_which_they_were_wanted(self):
        deeds = [("want", 2), ("want", 0), ("want", 1), ("go", 1, 100), ("go", 1, 1), ("leave", 1), ("go", 0, 100),
                 ("leave", 0), ("go", 2, 100), ("leave", 2)]
        self.assertEqual(visits_after(3, deeds), [(2, 0, 8, 1, 8, 9), (0, 1, 6, 1, 6, 7), (1, 2, 3, 1, 3, 5)])

    def test_a_hand_that_wants_in_again(self):
        deeds = [("want", 0), ("go", 0, 100), ("leave", 0), ("want", 0), ("go", 0, 3), ("leave", 0), ("want", 0)]
        self.assertEqual(visits_after(2, deeds), [
            (0, 0, 1, 1, 1, 2), (0, 3, None, 1, None, 5), (0, 6, None, None, None, None)])

    def test_the_ticket_stays_told_when_it_is_laid_down(self):
        deeds = [("want", 0), ("go", 0, 100), ("want", 1), ("go", 1, 100), ("leave", 0), ("round",), ("round",)]
        visits, hands = all_after(2, deeds + [("round",)])
        self.assertEqual(visits, [(0, 0, 1, 1, 1, 4), (1, 2, 3, 2, 6, 7)])
        self.assertEqual(hands, [OUT, OUT])

    def test_places_of_two_hundred_deeds(self):
        deeds = []
        for visit in range(50):
            deeds += [("want", visit % 20), ("go", visit % 20, 100), ("go", visit % 20, 1), ("leave", visit % 20)]
        self.assertEqual(len(deeds), 200)
        self.assertEqual(visits_after(20, deeds), [
            (visit % 20, 4 * visit, 4 * visit + 1, 1, 4 * visit + 1, 4 * visit + 3) for visit in range(50)])
        self.assertEqual([said for said in answers(20, deeds) if isinstance(said, str)], ["within"] * 50)


class HandedIn(unittest.TestCase):
    """Point 1: nothing that is handed in is changed, and nothing is kept from one story to the next."""

    def test_the_deeds_are_as_they_were(self):
        deeds = [("want", 0), ("go", 0, 100), ("want", 5), ("want", 1), ("round",), ("go", 1, 3), ("leave", 1)]
        kept = copy.deepcopy(deeds)
        answers(2, deeds)
        all_after(2, deeds)
        self.assertEqual(deeds, kept)

    def test_what_was_answered_is_its_own(self):
        deeds = [("want", 0), ("go", 0, 3), ("go", 0, 100), ("round",)]
        said = answers(2, deeds)
        kept = copy.deepcopy(said)
        said[1].clear()
        said[3].append(7)
        self.assertEqual(answers(2, deeds), kept)
        told = all_after(2, deeds)
        kept = copy.deepcopy(told)
        told[0].clear()
        told[1].clear()
        self.assertEqual(all_after(2, deeds), kept)

    def test_the_same_list_told_twice(self):
        deeds = [("want", 0), ("go", 0, 100)]
        self.assertEqual(answers(2, deeds), answers(2, deeds))
        self.assertEqual(all_after(2, deeds), all_after(2, deeds))

    def test_one_deed_object_many_times(self):
        deed = ("want", 0)
        self.assertEqual(answers(1, [deed, deed, deed]), [0, "on its way", "on its way"])

    def test_somewhat_beyond_the_bounds(self):
        deeds = [("want", 24), ("go", 24, 130)] + [("round",)] * 300
        self.assertEqual(visits_after(25, deeds), [(24, 0, 1, 1, 1, 2)])


if __name__ == "__main__":
    unittest.main()
