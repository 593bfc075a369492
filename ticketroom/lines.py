"""Lines: visits written down, and read from what was written."""

from ticketroom.errors import NoLine
from ticketroom.visits import ENTERED, HAND, LEFT, LOWERED, TICKET, WANTED

FIGURES = "0123456789"

# The words in the order of a line, where the ticket is ahead of the lowering, each with its place in a visit.
WORDS = (("wants", 1), ("draws", 3), ("lowers", 2), ("enters", 4), ("leaves", 5))


def line_of(visit):
    parts = [str(visit[HAND])]
    for word, place in WORDS:
        if visit[place] is not None:
            parts.append(word)
            parts.append(str(visit[place]))
    return " ".join(parts)


def shown(visits):
    return [line_of(visit) for visit in visits]


def number_of(text):
    # int would read signs, blanks and the figures of other scripts too.
    if text == "" or not all([sign in FIGURES for sign in text]):
        raise NoLine("no number")
    if text[0] == "0" and text != "0":
        raise NoLine("a nought at a number's beginning")
    return int(text)


# An even count of parts leaves a word without its number: from then on each word found has one.
def parts_of(line):
    parts = line.split(" ")
    if len(parts) % 2 == 0:
        raise NoLine("a word without a number, or a number without a word")
    return parts


def visit_of(line):
    parts = parts_of(line)
    visit = [number_of(parts[0]), None, None, None, None, None]
    at = 1
    for word, place in WORDS:
        if at < len(parts) and parts[at] == word:
            visit[place] = number_of(parts[at + 1])
            at += 2
    if at < len(parts):
        raise NoLine("a word that doesn't belong there")
    check(visit)
    return tuple(visit)


def check(visit):
    if visit[WANTED] is None:
        raise NoLine("nobody wants in")
    if visit[TICKET] == 0:
        raise NoLine("a ticket of nought")
    if visit[LOWERED] is not None:
        check_lowered(visit)
    if visit[ENTERED] is not None:
        check_entered(visit)
    if visit[LEFT] is not None:
        check_left(visit)


def check_lowered(visit):
    if visit[TICKET] is None:
        raise NoLine("lowered without a ticket")
    if visit[LOWERED] <= visit[WANTED]:
        raise NoLine("lowered not behind the wanting")


def check_entered(visit):
    if visit[LOWERED] is None:
        raise NoLine("entered without lowering")
    if visit[ENTERED] < visit[LOWERED]:
        raise NoLine("entered ahead of the lowering")


def check_left(visit):
    for place in (WANTED, LOWERED, ENTERED):
        if visit[place] is not None and visit[LEFT] <= visit[place]:
            raise NoLine("left not behind all that")


def read(lines):
    visits = []
    for line in lines:
        visit = visit_of(line)
        if visits and visit[WANTED] <= visits[-1][WANTED]:
            raise NoLine("the wanted don't rise")
        visits.append(visit)
    return visits
