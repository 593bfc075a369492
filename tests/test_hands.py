import unittest

from ticketroom.hands import Hand, goes_first
from ticketroom.room import Room

from helper import alone_at, bring_in, state, words


def hand_with(number, ticket):
    hand = Hand(number, 20)
    hand.ticket = ticket
    return hand


class Beginning(unittest.TestCase):
    """Point 2."""

    def test_all_flags_are_down_all_tickets_nought_and_all_out(self):
        for count in (1, 2, 3, 20, 25):
            self.assertEqual(state(Room(count)), [(False, 0, "out")] * count)

    def test_hands_are_numbered_from_nought(self):
        self.assertEqual([hand.number for hand in Room(4).hands], [0, 1, 2, 3])

    def test_others_by_their_numbers(self):
        self.assertEqual(Hand(0, 1).others, [])
        self.assertEqual(Hand(0, 4).others, [1, 2, 3])
        self.assertEqual(Hand(2, 4).others, [0, 1, 3])
        self.assertEqual(Hand(3, 4).others, [0, 1, 2])

    def test_the_flag_is_true_or_false(self):
        room = Room(2)
        self.assertIs(room.hands[0].flag, False)
        room.want(0)
        room.go(0, 1)
        self.assertIs(room.hands[0].flag, True)


class WayAlone(unittest.TestCase):
    """Point 3, where all others are out."""

    def test_three_hands(self):
        room = Room(3)
        room.want(1)
        self.assertEqual(room.go(1, 100), [
            ("begins", None, None),
            ("looks", 0, 0), ("looks", 2, 0),
            ("draws", None, 1),
            ("lowers", None, None),
            ("asks", 0, 0), ("sees", 0, 0),
            ("asks", 2, 0), ("sees", 2, 0),
            ("enters", None, 1),
        ])

    def test_one_hand(self):
        room = Room(1)
        room.want(0)
        self.assertEqual(room.go(0, 100), [
            ("begins", None, None), ("draws", None, 1), ("lowers", None, None), ("enters", None, 1),
        ])
        self.assertEqual(state(room), [(False, 1, "within")])
        self.assertEqual(room.leave(0), 1)
        self.assertEqual(state(room), [(False, 0, "out")])

    def test_twenty_hands(self):
        room = Room(20)
        room.want(7)
        others = [other for other in range(20) if other != 7]
        asked = []
        for other in others:
            asked += [("asks", other, 0), ("sees", other, 0)]
        self.assertEqual(
            room.go(7, 100),
            [("begins", None, None)] + [("looks", other, 0) for other in others]
            + [("draws", None, 1), ("lowers", None, None)] + asked + [("enters", None, 1)])

    def test_what_each_step_changes(self):
        room = Room(2)
        room.want(0)
        seen = [state(room)[0]]
        for many in range(7):
            room.go(0, 1)
            seen.append(state(room)[0])
        self.assertEqual(seen, [
            (False, 0, "begins"), (True, 0, "looks"), (True, 0, "draws"), (True, 1, "lowers"),
            (False, 1, "asks"), (False, 1, "sees"), (False, 1, "enters"), (False, 1, "within"),
        ])

    def test_no_step_changes_another_hand(self):
        room = Room(3)
        room.want(0)
        room.go(0, 4)
        room.want(1)
        room.want(2)
        for many in range(30):
            before = state(room)
            hand = many % 3
            if words(room)[hand] not in ("within", "out"):
                room.go(hand, 1)
            after = state(room)
            for other in range(3):
                if other != hand:
                    self.assertEqual(before[other], after[other])


class Drawing(unittest.TestCase):
    """Point 3: `looks` and `draws`."""

    def test_one_where_none_above_nought_was_seen(self):
        room = Room(3)
        room.want(0)
        self.assertEqual(room.go(0, 4)[3], ("draws", None, 1))

    def test_one_more_than_the_greatest_wherever_it_was_seen(self):
        for seen in ([7, 3, 5], [3, 7, 5], [3, 5, 7], [7, 7, 0], [0, 0, 7]):
            room = Room(4)
            for other, ticket in zip((0, 1, 3), seen):
                room.hands[other].ticket = ticket
            room.want(2)
            self.assertEqual(room.go(2, 5), [
                ("begins", None, None),
                ("looks", 0, seen[0]), ("looks", 1, seen[1]), ("looks", 3, seen[2]),
                ("draws", None, 8),
            ])
            self.assertEqual(room.hands[2].ticket, 8)

    def test_its_own_ticket_is_no_other_one(self):
        room = Room(2)
        for many in range(3):
            bring_in(room, 0)
            self.assertEqual(room.leave(0), 1)

    def test_what_was_seen_counts_though_it_is_gone_by_then(self):
        room = Room(3)
        bring_in(room, 0)
        room.want(1)
        room.go(1, 2)
        room.leave(0)
        self.assertEqual(room.go(1, 2), [("looks", 2, 0), ("draws", None, 2)])

    def test_what_came_behind_the_look_does_not_count(self):
        room = Room(3)
        room.want(1)
        room.go(1, 2)
        room.want(0)
        self.assertEqual(room.go(0, 4)[3], ("draws", None, 1))
        self.assertEqual(room.go(1, 2), [("looks", 2, 0), ("draws", None, 1)])

    def test_what_an_earlier_visit_saw_does_not_count(self):
        room = Room(2)
        bring_in(room, 0)
        room.want(1)
        self.assertEqual(room.go(1, 2)[1], ("looks", 0, 1))
        room.leave(1)
        room.leave(0)
        room.want(1)
        self.assertEqual(room.go(1, 3)[1:], [("looks", 0, 0), ("draws", None, 1)])


class AskingAndSeeing(unittest.TestCase):
    """Point 3: `asks` and `sees`."""

    def test_asks_again_while_the_flag_is_up(self):
        room = Room(2)
        room.want(1)
        room.go(1, 1)
        room.want(0)
        self.assertEqual(room.go(0, 7)[4:], [("asks", 1, 1)] * 3)
        self.assertEqual(words(room), ["asks", "looks"])
        room.go(1, 2)
        self.assertEqual(room.go(0, 1), [("asks", 1, 1)])
        room.go(1, 1)
        self.assertEqual(room.go(0, 9), [("asks", 1, 0), ("sees", 1, 2), ("enters", None, 1)])

    def test_what_asking_answers_is_a_whole_number(self):
        room = Room(3)
        room.want(2)
        room.go(2, 1)
        room.want(0)
        saw = [saw for word, other, saw in room.go(0, 9) if word == "asks"]
        self.assertEqual(saw, [0, 1, 1])
        self.assertEqual([type(number) for number in saw], [int] * 3)

    def test_sees_again_while_that_ticket_goes_first_and_does_not_ask_again(self):
        room = Room(3)
        bring_in(room, 0)
        room.want(2)
        self.assertEqual(room.go(2, 9)[5:], [("asks", 0, 0)] + [("sees", 0, 1)] * 3)
        room.leave(0)
        room.want(0)
        room.go(0, 1)
        self.assertTrue(room.hands[0].flag)
        self.assertEqual(room.go(2, 9), [
            ("sees", 0, 0), ("asks", 1, 0), ("sees", 1, 0), ("enters", None, 2)])

    def test_a_flag_that_goes_up_behind_the_asking_does_not_hold_it_up(self):
        room = alone_at("sees", 2, 1)
        room.want(0)
        room.go(0, 1)
        self.assertEqual(room.go(1, 9), [("sees", 0, 0), ("enters", None, 1)])

    def test_of_two_equal_tickets_the_lesser_number_goes_first(self):
        room = Room(2)
        room.want(0)
        room.want(1)
        room.go(0, 2)
        room.go(1, 2)
        self.assertEqual(room.go(1, 2), [("draws", None, 1), ("lowers", None, None)])
        self.assertEqual(room.go(0, 2), [("draws", None, 1), ("lowers", None, None)])
        self.assertEqual(room.go(1, 4), [("asks", 0, 0)] + [("sees", 0, 1)] * 3)
        self.assertEqual(room.go(0, 9), [("asks", 1, 0), ("sees", 1, 1), ("enters", None, 1)])
        self.assertEqual(room.go(1, 2), [("sees", 0, 1)] * 2)
        room.leave(0)
        self.assertEqual(room.go(1, 9), [("sees", 0, 0), ("enters", None, 1)])


class GoingFirst(unittest.TestCase):
    """Point 4."""

    def test_less_goes_first_whatever_the_numbers(self):
        self.assertTrue(goes_first(hand_with(9, 4), hand_with(2, 5)))
        self.assertTrue(goes_first(hand_with(2, 4), hand_with(9, 5)))

    def test_greater_does_not_whatever_the_numbers(self):
        self.assertFalse(goes_first(hand_with(2, 6), hand_with(9, 5)))
        self.assertFalse(goes_first(hand_with(9, 6), hand_with(2, 5)))

    def test_of_the_same_the_lesser_number_does(self):
        self.assertTrue(goes_first(hand_with(2, 5), hand_with(3, 5)))
        self.assertFalse(goes_first(hand_with(3, 5), hand_with(2, 5)))

    def test_nought_never_does(self):
        self.assertFalse(goes_first(hand_with(0, 0), hand_with(1, 1)))
        self.assertFalse(goes_first(hand_with(0, 0), hand_with(1, 10 ** 99)))

    def test_tickets_of_a_hundred_figures(self):
        great = 10 ** 99
        self.assertTrue(goes_first(hand_with(9, great), hand_with(0, great + 1)))
        self.assertFalse(goes_first(hand_with(0, great + 1), hand_with(9, great)))


if __name__ == "__main__":
    unittest.main()
