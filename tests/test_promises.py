"""Points 1 and 6 to 10: what holds in whatever order the hands go."""

import random
import unittest

from ticketroom.room import Room

from helper import bring_in, everything, rounds_enough, rounds_until_out, state, steps_alone, tickets, within, words

LOWERED = ("asks", "sees", "enters", "within")


class Watched:
    """A room, with what the promises ask to be remembered of the deeds done in it.

    `ahead[hand]` are the hands that had lowered their flags when that one wanted in and
    haven't left since: none of them may be there any more when it goes in.
    """

    def __init__(self, count):
        self.room = Room(count)
        self.visits = 0
        self.ahead = [set() for hand in range(count)]

    def copy(self):
        other = Watched(len(self.ahead))
        for mine, copied in zip(self.room.hands, other.room.hands):
            vars(copied).update(vars(mine))
        other.visits = self.visits
        other.ahead = [set(hands) for hands in self.ahead]
        return other

    def key(self):
        hands = [(h.flag, h.ticket, h.word, h.place, h.greatest) for h in self.room.hands]
        return (self.visits, tuple(hands), tuple(frozenset(hands) for hands in self.ahead))

    def want(self, hand):
        self.ahead[hand] = {h.number for h in self.room.hands if h.word in LOWERED}
        self.room.want(hand)
        self.visits += 1

    def step(self, hand):
        return self.room.go(hand, 1)

    def leave(self, hand):
        self.room.leave(hand)
        self.ahead[hand] = set()
        for hands in self.ahead:
            hands.discard(hand)

    def deeds(self, most_visits):
        found = []
        for hand, word in enumerate(words(self.room)):
            if word == "out":
                if self.visits < most_visits:
                    found.append((self.want, hand))
                continue
            found.append((self.leave, hand))
            if word != "within":
                found.append((self.step, hand))
        return found

    def faults(self):
        found = []
        hands = self.room.hands
        inside = within(self.room)
        if len(inside) > 1:
            found.append("two within")
        for one in inside:
            own = (hands[one].ticket, one)
            if own[0] < 1 or any(h.ticket > 0 and (h.ticket, h.number) < own for h in hands):
                found.append("another ticket goes first")
            if self.ahead[one]:
                found.append("went in ahead of an earlier one")
        for hand in hands:
            if hand.ticket and any(hands[first].ticket >= hand.ticket for first in self.ahead[hand.number]):
                found.append("an earlier one has no lesser ticket")
        if max(tickets(self.room)) > self.visits:
            found.append("a ticket greater than the visits")
        return found


def reachable(count, most_visits):
    """Every room that may come of any deeds with so many visits, each once."""
    first = Watched(count)
    seen = {first.key()}
    waiting = [first]
    while waiting:
        watched = waiting.pop()
        yield watched
        for place in range(len(watched.deeds(most_visits))):
            after = watched.copy()
            deed, hand = after.deeds(most_visits)[place]
            deed(hand)
            if after.key() not in seen:
                seen.add(after.key())
                waiting.append(after)


def walks(count, many_walks, deeds_each):
    """Rooms on long ways, drawn from a fixed seed so that each run is the same."""
    for seed in range(many_walks):
        chance = random.Random(1000 * count + seed)
        leaving = chance.choice((0, 1, 10))
        watched = Watched(count)
        for many in range(deeds_each):
            deeds = watched.deeds(10 ** 6)
            weights = [leaving if deed == watched.leave and words(watched.room)[hand] != "within" else 30
                       for deed, hand in deeds]
            deed, hand = chance.choices(deeds, weights)[0]
            deed(hand)
            yield watched


def steps_to_get_in(watched, hand):
    """How many steps the hand needs when all others are out; None where they aren't."""
    if any(word != "out" for number, word in enumerate(words(watched.room)) if number != hand):
        return None
    return len(watched.copy().room.go(hand, 1000))


class AnyOrder(unittest.TestCase):
    def hold(self, watched):
        self.assertEqual(watched.faults(), [], state(watched.room))

    def rounds_hold(self, watched):
        count = len(watched.ahead)
        on_the_way = [hand for hand, word in enumerate(words(watched.room)) if word not in ("out", "within")]
        many, went_in = rounds_until_out(watched.copy().room, rounds_enough(count))
        self.assertEqual(sorted(went_in), on_the_way)

    def alone_holds(self, watched):
        for hand, word in enumerate(words(watched.room)):
            if word not in ("out", "within"):
                many = steps_to_get_in(watched, hand)
                if many is not None:
                    self.assertLessEqual(many, steps_alone(len(watched.ahead)))

    def test_one_and_two_hands_in_every_order(self):
        for count, most_visits in ((1, 3), (2, 4)):
            for watched in reachable(count, most_visits):
                self.hold(watched)
                self.alone_holds(watched)
                self.rounds_hold(watched)

    def test_three_hands_in_every_order(self):
        for watched in reachable(3, 3):
            self.hold(watched)
            self.alone_holds(watched)
            self.rounds_hold(watched)

    def test_long_ways_of_more_hands(self):
        for count, many_walks, deeds_each in ((3, 40, 400), (4, 30, 500), (7, 12, 800), (20, 6, 1500)):
            for many, watched in enumerate(walks(count, many_walks, deeds_each)):
                self.hold(watched)
                self.alone_holds(watched)
                if many % 97 == 0:
                    self.rounds_hold(watched)


class Numbers(unittest.TestCase):
    """Points 8 to 10, where the document gives the very numbers."""

    def test_just_so_many_steps_alone(self):
        for count in (1, 2, 3, 7, 20):
            for hand in range(count):
                room = Room(count)
                room.want(hand)
                room.go(hand, 3 * count)
                self.assertEqual(words(room)[hand], "enters")
                room.go(hand, 1)
                self.assertEqual(words(room)[hand], "within")

    def test_ten_steps_alone_where_there_are_three_hands(self):
        room = Room(3)
        room.want(2)
        self.assertEqual(len(room.go(2, 100)), 10)

    def test_no_more_steps_alone_behind_others_that_left(self):
        room = Room(3)
        bring_in(room, 0)
        room.want(1)
        room.go(1, 50)
        room.want(2)
        room.go(2, 50)
        room.leave(1)
        room.leave(0)
        self.assertLessEqual(len(room.go(2, 100)), 10)
        self.assertEqual(within(room), [2])

    def test_all_are_out_behind_enough_rounds_from_the_beginning_on(self):
        for count in (1, 2, 3, 8, 20):
            room = Room(count)
            for hand in range(count):
                room.want(hand)
            many, went_in = rounds_until_out(room, rounds_enough(count))
            self.assertEqual(went_in, list(range(count)))

    def test_five_rounds_where_there_is_one_hand(self):
        room = Room(1)
        room.want(0)
        for many in range(4):
            room.go_round()
        self.assertEqual(words(room), ["within"])
        room.go_round()
        self.assertEqual(words(room), ["out"])

    def test_twenty_three_rounds_where_there_are_three_hands(self):
        for order in ((0, 1, 2), (2, 1, 0), (1, 2, 0)):
            room = Room(3)
            for hand in order:
                room.want(hand)
                room.go(hand, 5)
            went_in = []
            for many in range(23):
                went_in += [hand for hand, done in room.go_round() if done[0] == "enters"]
            self.assertEqual(words(room), ["out"] * 3)
            self.assertEqual(went_in, list(order))

    def test_the_greatest_ticket_is_how_many_visits_there_were(self):
        room = Room(20)
        for hand in range(20):
            room.want(hand)
            room.go(hand, 22)
        self.assertEqual(tickets(room), list(range(1, 21)))

    def test_tickets_rise_over_two_hundred_visits(self):
        room = Room(2)
        bring_in(room, 0)
        for visit in range(2, 201):
            comes = (visit + 1) % 2
            room.want(comes)
            self.assertEqual(room.go(comes, 4)[2], ("draws", None, visit))
            room.leave(1 - comes)
            room.go(comes, 100)
        self.assertEqual(tickets(room), [0, 200])

    def test_tickets_begin_anew_where_nobody_else_is_there(self):
        room = Room(3)
        for visit in range(50):
            bring_in(room, visit % 3)
            self.assertEqual(room.leave(visit % 3), 1)

    def test_who_lowered_first_goes_in_first(self):
        room = Room(3)
        for hand in (2, 0, 1):
            room.want(hand)
            room.go(hand, 5)
        self.assertEqual(tickets(room), [2, 3, 1])
        entered = []
        for many in range(100):
            for hand in (1, 0, 2):
                if words(room)[hand] not in ("within", "out"):
                    room.go(hand, 1)
            for hand in within(room):
                entered.append(hand)
                room.leave(hand)
        self.assertEqual(entered, [2, 0, 1])


class NothingFromOutside(unittest.TestCase):
    """Point 1."""

    def run_of_deeds(self):
        room = Room(5)
        done = []
        for many in range(60):
            hand = many * many % 5
            if words(room)[hand] == "out":
                room.want(hand)
            elif words(room)[hand] != "within":
                done.append(room.go(hand, many % 7))
            done.append(room.go_round())
        return done, everything(room)

    def test_the_same_deeds_come_to_the_same(self):
        self.assertEqual(self.run_of_deeds(), self.run_of_deeds())

    def test_one_room_knows_nothing_of_another(self):
        one = Room(2)
        other = Room(2)
        bring_in(one, 0)
        self.assertEqual(state(other), [(False, 0, "out")] * 2)
        bring_in(other, 1)
        self.assertEqual((within(one), within(other)), ([0], [1]))

    def test_what_was_answered_stays_as_it_was(self):
        room = Room(2)
        room.want(0)
        first = room.go(0, 2)
        kept = list(first)
        room.go(0, 50)
        self.assertEqual(first, kept)
        first.clear()
        self.assertEqual(room.leave(0), 1)

    def test_somewhat_more_than_twenty_hands(self):
        room = Room(26)
        bring_in(room, 25)
        self.assertEqual(within(room), [25])


if __name__ == "__main__":
    unittest.main()
