"""A hand: its flag, its ticket, where it is, and the steps of its way in."""

BEGINS = "begins"
LOOKS = "looks"
DRAWS = "draws"
LOWERS = "lowers"
ASKS = "asks"
SEES = "sees"
ENTERS = "enters"
WITHIN = "within"
OUT = "out"


class Hand:
    def __init__(self, number, count):
        self.number = number
        self.others = [other for other in range(count) if other != number]
        self.flag = False
        self.ticket = 0
        self.word = OUT
        self.place = 0
        self.greatest = 0

    def want_in(self):
        # What an earlier visit saw says nothing of the tickets that are there now.
        self.greatest = 0
        self.word = BEGINS

    # A hand alone is behind all others at once: that is why every turn asks for both words.
    def turn_to(self, place, word, word_behind_all):
        self.place = place
        self.word = word if place < len(self.others) else word_behind_all

    def go_out(self):
        had = self.ticket
        self.flag = False
        self.ticket = 0
        self.word = OUT
        return had


def goes_first(other, own):
    if other.ticket == 0:
        return False
    return (other.ticket, other.number) < (own.ticket, own.number)


def begins(own):
    own.flag = True
    own.turn_to(0, LOOKS, DRAWS)
    return None


def looks(own, other):
    own.greatest = max(own.greatest, other.ticket)
    own.turn_to(own.place + 1, LOOKS, DRAWS)
    return other.ticket


def draws(own):
    own.ticket = own.greatest + 1
    own.word = LOWERS
    return own.ticket


def lowers(own):
    own.flag = False
    own.turn_to(0, ASKS, ENTERS)
    return None


def asks(own, other):
    if other.flag:
        return 1
    own.word = SEES
    return 0


def sees(own, other):
    if not goes_first(other, own):
        own.turn_to(own.place + 1, ASKS, ENTERS)
    return other.ticket


def enters(own):
    own.word = WITHIN
    return own.ticket


STEPS_OF_ITS_OWN = {"begins": begins, "draws": draws, "lowers": lowers, "enters": enters}
STEPS_THAT_LOOK = {"looks": looks, "asks": asks, "sees": sees}


def step(own, hands):
    word = own.word
    if word in STEPS_OF_ITS_OWN:
        return (word, None, STEPS_OF_ITS_OWN[word](own))
    other = hands[own.others[own.place]]
    return (word, other.number, STEPS_THAT_LOOK[word](own, other))
