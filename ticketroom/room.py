"""The room: what its hands may be told to do, and what is refused."""

from ticketroom.errors import NoHand, Out, WantsIn, Within
from ticketroom.hands import OUT, WITHIN, Hand, step

LEAVES = "leaves"


class Room:
    def __init__(self, count):
        self.hands = [Hand(number, count) for number in range(count)]

    def hand_of(self, number):
        # An index below nought would find a hand from the list's end.
        if number < 0 or number >= len(self.hands):
            raise NoHand("no hand")
        return self.hands[number]

    def want(self, number):
        hand = self.hand_of(number)
        if hand.word == WITHIN:
            raise Within("within")
        if hand.word != OUT:
            raise WantsIn("on its way")
        hand.want_in()

    def go(self, number, many):
        hand = self.hand_of(number)
        if hand.word == OUT:
            raise Out("out")
        if hand.word == WITHIN:
            raise Within("within")
        done = []
        while len(done) < many and hand.word != WITHIN:
            done.append(step(hand, self.hands))
        return done

    def leave(self, number):
        hand = self.hand_of(number)
        if hand.word == OUT:
            raise Out("out")
        return hand.go_out()

    # Going out is told like a step, so that whoever reads a round finds one form alone.
    def go_round(self):
        done = []
        for hand in self.hands:
            if hand.word == WITHIN:
                done.append((hand.number, (LEAVES, None, hand.go_out())))
            elif hand.word != OUT:
                done.append((hand.number, step(hand, self.hands)))
        return done
