"""What several test files need: rooms brought to a place, and looks at them."""

from ticketroom.room import Room

ON_THE_WAY = ("begins", "looks", "draws", "lowers", "asks", "sees", "enters")
NO_HANDS = (-1, 10 ** 99, -(10 ** 99))


def state(room):
    return [(hand.flag, hand.ticket, hand.word) for hand in room.hands]


def everything(room):
    return [sorted(vars(hand).items()) for hand in room.hands]


def words(room):
    return [hand.word for hand in room.hands]


def tickets(room):
    return [hand.ticket for hand in room.hands]


def words_of(done):
    return [word for word, other, saw in done]


def within(room):
    return [hand.number for hand in room.hands if hand.word == "within"]


def bring_in(room, hand):
    room.want(hand)
    room.go(hand, 1000)


def steps_alone(count):
    return 3 * count + 1


def rounds_enough(count):
    return 2 * count * count + count + 2


def alone_at(word, count=3, hand=1):
    """A room with one hand that will do the step of that word next, all others out."""
    room = Room(count)
    room.want(hand)
    for many in range(steps_alone(count)):
        if room.hands[hand].word == word:
            return room
        room.go(hand, 1)
    raise AssertionError("it doesn't come to " + word)


def rounds_until_out(room, at_most):
    """How many rounds there were until all were out, and which hands went in by them."""
    went_in = []
    for many in range(at_most + 1):
        if all(word == "out" for word in words(room)):
            return many, went_in
        for hand, done in room.go_round():
            if done[0] == "enters":
                went_in.append(hand)
    raise AssertionError("not all are out")
