"""Judging: whether visits are fair."""

from ticketroom.visits import ENTERED, LEFT, LOWERED, WANTED


def had_left(visit, by):
    return visit[LEFT] is not None and visit[LEFT] <= by


def within_together(one, other):
    if one[ENTERED] is None or other[ENTERED] is None:
        return False
    return not had_left(one, other[ENTERED]) and not had_left(other, one[ENTERED])


def entered_ahead(one, other):
    # Who hasn't been within at all still waits: whoever entered is ahead of that one too.
    if one[ENTERED] is None:
        return False
    return other[ENTERED] is None or one[ENTERED] < other[ENTERED]


def passed_by(one, other):
    if other[LOWERED] is None or other[LOWERED] >= one[WANTED]:
        return False
    return entered_ahead(one, other) and not had_left(other, one[ENTERED])


def fair(visits):
    for place, one in enumerate(visits):
        for other in visits[place + 1:]:
            if within_together(one, other) or passed_by(one, other) or passed_by(other, one):
                return False
    return True
