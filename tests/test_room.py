import unittest

from ticketroom.errors import NoHand, Out, RoomError, WantsIn, Within
from ticketroom.room import Room

from helper import ON_THE_WAY, alone_at, bring_in, everything, state, steps_alone, tickets, within, words, words_of


class Leaving(unittest.TestCase):
    """Point 5."""

    def test_going_out_lays_the_ticket_down(self):
        room = Room(3)
        bring_in(room, 2)
        self.assertEqual(state(room)[2], (False, 1, "within"))
        self.assertEqual(room.leave(2), 1)
        self.assertEqual(state(room), [(False, 0, "out")] * 3)

    def test_leaving_the_way_at_each_word(self):
        had = {"begins": 0, "looks": 0, "draws": 0, "lowers": 1, "asks": 1, "sees": 1, "enters": 1}
        for word in ON_THE_WAY:
            with self.subTest(word):
                room = alone_at(word)
                self.assertEqual(room.leave(1), had[word])
                self.assertEqual(state(room), [(False, 0, "out")] * 3)

    def test_leaving_at_each_step_and_wanting_in_again_goes_the_whole_way(self):
        whole = Room(3)
        whole.want(1)
        way = whole.go(1, 100)
        for many in range(steps_alone(3) + 1):
            with self.subTest(many):
                room = Room(3)
                room.want(1)
                room.go(1, many)
                room.leave(1)
                room.want(1)
                self.assertEqual(state(room)[1], (False, 0, "begins"))
                self.assertEqual(room.go(1, 100), way)

    def test_leaving_gives_back_the_ticket_that_was_drawn(self):
        room = Room(3)
        bring_in(room, 0)
        room.want(1)
        room.go(1, 5)
        room.want(2)
        room.go(2, 5)
        self.assertEqual([room.leave(2), room.leave(1), room.leave(0)], [3, 2, 1])

    def test_others_go_on_where_one_left_its_way(self):
        room = Room(2)
        room.want(0)
        room.go(0, 1)
        room.want(1)
        self.assertEqual(room.go(1, 6)[4:], [("asks", 0, 1)] * 2)
        self.assertEqual(room.leave(0), 0)
        self.assertEqual(room.go(1, 9), [("asks", 0, 0), ("sees", 0, 0), ("enters", None, 1)])

    def test_leaving_changes_no_other_hand(self):
        room = Room(3)
        bring_in(room, 0)
        room.want(1)
        room.go(1, 6)
        room.want(2)
        room.go(2, 2)
        before = everything(room)
        room.leave(0)
        self.assertEqual(everything(room)[1:], before[1:])


class Going(unittest.TestCase):
    def test_so_many_steps(self):
        for many in range(steps_alone(3) + 1):
            room = Room(3)
            room.want(0)
            self.assertEqual(len(room.go(0, many)), many)

    def test_no_step(self):
        room = Room(2)
        room.want(0)
        before = everything(room)
        self.assertEqual(room.go(0, 0), [])
        self.assertEqual(everything(room), before)

    def test_no_more_when_it_is_within(self):
        room = Room(3)
        room.want(0)
        self.assertEqual(len(room.go(0, 100)), 10)
        self.assertEqual(words(room), ["within", "out", "out"])

    def test_all_the_steps_while_it_waits(self):
        room = Room(2)
        bring_in(room, 0)
        room.want(1)
        self.assertEqual(len(room.go(1, 100)), 100)
        self.assertEqual(len(room.go(1, 150)), 150)

    def test_one_by_one_is_the_same_as_at_once(self):
        at_once = Room(3)
        bring_in(at_once, 0)
        at_once.want(1)
        one_by_one = Room(3)
        bring_in(one_by_one, 0)
        one_by_one.want(1)
        done = []
        for many in range(20):
            done += one_by_one.go(1, 1)
        self.assertEqual(at_once.go(1, 20), done)
        self.assertEqual(everything(at_once), everything(one_by_one))

    def test_two_hands_with_steps_between_one_another(self):
        room = Room(2)
        room.want(0)
        room.want(1)
        done = []
        for hand in (1, 1, 0, 0, 1, 0, 1, 0, 0, 1, 0, 1, 0, 1):
            done.append((hand,) + room.go(hand, 1)[0])
        self.assertEqual(done, [
            (1, "begins", None, None), (1, "looks", 0, 0), (0, "begins", None, None), (0, "looks", 1, 0),
            (1, "draws", None, 1), (0, "draws", None, 1), (1, "lowers", None, None), (0, "lowers", None, None),
            (0, "asks", 1, 0), (1, "asks", 0, 0), (0, "sees", 1, 1), (1, "sees", 0, 1),
            (0, "enters", None, 1), (1, "sees", 0, 1),
        ])
        self.assertEqual(state(room), [(False, 1, "within"), (False, 1, "sees")])

    def test_three_hands_by_turns(self):
        room = Room(3)
        room.want(2)
        room.go(2, 5)
        room.want(0)
        room.go(0, 5)
        room.want(1)
        room.go(1, 3)
        self.assertEqual(words_of(room.go(2, 4)), ["asks", "sees", "asks", "asks"])
        self.assertEqual(room.go(1, 2), [("draws", None, 3), ("lowers", None, None)])
        self.assertEqual(room.go(2, 9), [("asks", 1, 0), ("sees", 1, 3), ("enters", None, 1)])
        self.assertEqual(room.go(0, 5), [("asks", 1, 0), ("sees", 1, 3), ("asks", 2, 0), ("sees", 2, 1), ("sees", 2, 1)])
        self.assertEqual(room.go(1, 3), [("asks", 0, 0), ("sees", 0, 2), ("sees", 0, 2)])
        room.leave(2)
        self.assertEqual(room.go(0, 9), [("sees", 2, 0), ("enters", None, 2)])
        room.leave(0)
        self.assertEqual(room.go(1, 9), [("sees", 0, 0), ("asks", 2, 0), ("sees", 2, 0), ("enters", None, 3)])
        self.assertEqual(tickets(room), [0, 3, 0])


class Rounds(unittest.TestCase):
    """Point 9: what a round is."""

    def test_a_round_with_all_out_does_nothing(self):
        room = Room(3)
        self.assertEqual(room.go_round(), [])
        self.assertEqual(state(room), [(False, 0, "out")] * 3)

    def test_each_hand_on_its_way_does_one_step_by_its_number(self):
        room = Room(4)
        for hand in (3, 0, 2):
            room.want(hand)
        room.go(2, 2)
        self.assertEqual(room.go_round(), [
            (0, ("begins", None, None)), (2, ("looks", 1, 0)), (3, ("begins", None, None))])

    def test_a_hand_within_goes_out(self):
        room = Room(3)
        bring_in(room, 1)
        self.assertEqual(room.go_round(), [(1, ("leaves", None, 1))])
        self.assertEqual(state(room), [(False, 0, "out")] * 3)

    def test_who_goes_in_by_a_round_goes_out_by_the_next_one(self):
        room = alone_at("enters")
        self.assertEqual(room.go_round(), [(1, ("enters", None, 1))])
        self.assertEqual(within(room), [1])
        room.go_round()
        self.assertEqual(words(room), ["out"] * 3)

    def test_a_later_hand_acts_on_what_an_earlier_one_has_done(self):
        room = Room(2)
        bring_in(room, 0)
        room.want(1)
        room.go(1, 6)
        self.assertEqual(room.go_round(), [(0, ("leaves", None, 1)), (1, ("sees", 0, 0))])
        self.assertEqual(words(room), ["out", "enters"])

    def test_an_earlier_hand_acts_on_what_a_later_one_had_done_before(self):
        room = Room(2)
        bring_in(room, 1)
        room.want(0)
        room.go(0, 6)
        self.assertEqual(room.go_round(), [(0, ("sees", 1, 1)), (1, ("leaves", None, 1))])
        self.assertEqual(words(room), ["sees", "out"])

    def test_a_ticket_drawn_in_the_round_is_seen_in_it(self):
        room = Room(2)
        room.want(0)
        room.go(0, 2)
        room.want(1)
        room.go(1, 1)
        self.assertEqual(room.go_round(), [(0, ("draws", None, 1)), (1, ("looks", 0, 1))])

    def test_a_flag_raised_in_the_round_is_seen_in_it(self):
        room = alone_at("asks", 2, 1)
        room.want(0)
        self.assertEqual(room.go_round(), [(0, ("begins", None, None)), (1, ("asks", 0, 1))])

    def test_two_hands_from_the_beginning_on(self):
        room = Room(2)
        room.want(0)
        room.want(1)
        done = [room.go_round() for many in range(4)]
        self.assertEqual(done[1:3], [
            [(0, ("looks", 1, 0)), (1, ("looks", 0, 0))], [(0, ("draws", None, 1)), (1, ("draws", None, 1))]])
        done = [room.go_round() for many in range(7)]
        self.assertEqual(done, [
            [(0, ("asks", 1, 0)), (1, ("asks", 0, 0))],
            [(0, ("sees", 1, 1)), (1, ("sees", 0, 1))],
            [(0, ("enters", None, 1)), (1, ("sees", 0, 1))],
            [(0, ("leaves", None, 1)), (1, ("sees", 0, 0))],
            [(1, ("enters", None, 1))],
            [(1, ("leaves", None, 1))],
            [],
        ])


class Refusals(unittest.TestCase):
    """Point 11: where a hand is refused; nothing is changed by it."""

    def refused(self, kind, room, name, *what):
        before = everything(room)
        with self.assertRaises(RoomError) as caught:
            getattr(room, name)(*what)
        self.assertIs(type(caught.exception), kind)
        self.assertEqual(everything(room), before)

    def no_hand_anywhere(self, room, hand):
        self.refused(NoHand, room, "want", hand)
        self.refused(NoHand, room, "go", hand, 0)
        self.refused(NoHand, room, "go", hand, 5)
        self.refused(NoHand, room, "leave", hand)

    def test_no_such_hand(self):
        for count in (1, 2, 3, 20):
            for hand in (-1, -2, -count, -count - 1, count, count + 1, 10 ** 99, -10 ** 99, 10 ** 5000):
                with self.subTest(count=count):
                    self.no_hand_anywhere(Room(count), hand)

    def test_no_such_hand_while_others_are_within_and_on_their_way(self):
        room = Room(3)
        bring_in(room, 2)
        room.want(1)
        room.go(1, 3)
        for hand in (-1, -2, -3, 3, 4):
            self.no_hand_anywhere(room, hand)

    def test_the_last_hand_is_there(self):
        for count in (1, 2, 20, 25):
            room = Room(count)
            bring_in(room, count - 1)
            self.assertEqual(within(room), [count - 1])

    def test_wanting_in_while_within(self):
        room = Room(2)
        bring_in(room, 0)
        self.refused(Within, room, "want", 0)

    def test_going_while_within(self):
        room = Room(2)
        bring_in(room, 0)
        for many in (0, 1, 100):
            self.refused(Within, room, "go", 0, many)

    def test_wanting_in_at_each_word_of_the_way(self):
        for word in ON_THE_WAY:
            with self.subTest(word):
                self.refused(WantsIn, alone_at(word), "want", 1)

    def test_going_and_leaving_while_out(self):
        left = Room(2)
        bring_in(left, 0)
        left.leave(0)
        off_its_way = alone_at("asks", 2, 0)
        off_its_way.leave(0)
        for room in (Room(2), left, off_its_way):
            for many in (0, 1, 100):
                self.refused(Out, room, "go", 0, many)
            self.refused(Out, room, "leave", 0)

    def test_a_refused_hand_may_go_on(self):
        room = alone_at("draws")
        self.refused(WantsIn, room, "want", 1)
        self.assertEqual(room.go(1, 1), [("draws", None, 1)])
        room.go(1, 100)
        self.refused(Within, room, "want", 1)
        self.assertEqual(room.leave(1), 1)
        self.refused(Out, room, "leave", 1)
        room.want(1)
        self.assertEqual(words(room), ["out", "begins", "out"])


if __name__ == "__main__":
    unittest.main()
