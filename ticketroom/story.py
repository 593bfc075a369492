"""Stories: deeds done one after the other, their answers, and the visits that come of them."""

from ticketroom.errors import NoHand, Out, WantsIn, Within
from ticketroom.hands import DRAWS, ENTERS, LOWERS
from ticketroom.room import LEAVES, Room
from ticketroom.visits import ENTERED, LEFT, LOWERED, TICKET

WANT = "want"
GO = "go"
LEAVE = "leave"


class Story:
    def __init__(self, count):
        self.room = Room(count)
        self.visits = []
        self.latest = {}
        self.deeds_done = 0

    # Refused deeds too are counted, since places are those of all deeds.
    def answer(self, deed):
        said = self.answer_or_refusal(deed)
        self.deeds_done += 1
        return said

    def answer_or_refusal(self, deed):
        try:
            return self.do(deed)
        except NoHand:
            return "no hand"
        except Within:
            return "within"
        except WantsIn:
            return "on its way"
        except Out:
            return "out"

    def do(self, deed):
        if deed[0] == WANT:
            return self.want(deed[1])
        if deed[0] == GO:
            return self.go(deed[1], deed[2])
        if deed[0] == LEAVE:
            return self.leave(deed[1])
        return self.go_round()

    # A visit is a list as long as the story goes on, since most of it isn't known at the wanting.
    def want(self, number):
        self.room.want(number)
        visit = [number, self.deeds_done, None, None, None, None]
        self.visits.append(visit)
        self.latest[number] = visit
        return len(self.visits) - 1

    def go(self, number, many):
        done = self.room.go(number, many)
        for one in done:
            self.keep(number, one)
        return done

    def leave(self, number):
        ticket = self.room.leave(number)
        self.keep(number, (LEAVES, None, ticket))
        return ticket

    def go_round(self):
        went_in = []
        for number, one in self.room.go_round():
            self.keep(number, one)
            if one[0] == ENTERS:
                went_in.append(number)
        return went_in

    def keep(self, number, one):
        visit = self.latest[number]
        word = one[0]
        if word == DRAWS:
            visit[TICKET] = one[2]
        elif word == LOWERS:
            visit[LOWERED] = self.deeds_done
        elif word == ENTERS:
            visit[ENTERED] = self.deeds_done
        elif word == LEAVES:
            visit[LEFT] = self.deeds_done


def answers(count, deeds):
    story = Story(count)
    return [story.answer(deed) for deed in deeds]


def all_after(count, deeds):
    story = Story(count)
    for deed in deeds:
        story.answer(deed)
    visits = [tuple(visit) for visit in story.visits]
    return (visits, [(hand.flag, hand.ticket, hand.word) for hand in story.room.hands])


def steps_alone(count):
    return 3 * count + 1


def rounds_enough(count):
    return 2 * count * count + count + 2
