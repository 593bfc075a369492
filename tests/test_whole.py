"""Points 1 and 6 to 14 over the whole program, seen through the functions of the interface."""

import copy
import itertools
import random
import unittest

from ticketroom.judging import fair
from ticketroom.lines import read, shown
from ticketroom.story import all_after, answers, rounds_enough, steps_alone

from helper import NO_HANDS


class Way:
    """One hand's way in, written down from its beginning to its end; it stands still ahead of each step."""

    def __init__(self, number, flags, tickets):
        self.saw = None
        self.walk = self.steps(number, flags, tickets)
        self.coming = next(self.walk)

    def steps(self, number, flags, tickets):
        others = [other for other in range(len(flags)) if other != number]
        yield ("begins", None)
        flags[number] = True
        seen = [0]
        for other in others:
            yield ("looks", other)
            self.saw = tickets[other]
            seen.append(self.saw)
        yield ("draws", None)
        self.saw = tickets[number] = max(seen) + 1
        yield ("lowers", None)
        flags[number] = False
        for other in others:
            up = True
            while up:
                yield ("asks", other)
                up = flags[other]
                self.saw = 1 if up else 0
            first = True
            while first:
                yield ("sees", other)
                self.saw = tickets[other]
                mine = tickets[number]
                first = 0 < self.saw < mine or (self.saw == mine and other < number)
        yield ("enters", None)
        self.saw = tickets[number]

    def step(self):
        word, other = self.coming
        self.saw = None
        self.coming = next(self.walk, None)
        tells = word not in ("begins", "lowers")
        return (word, other, self.saw if tells else None)


class Model:
    """A story told by other means than the program's, to hold the program's against."""

    def __init__(self, count):
        self.flags = [False] * count
        self.tickets = [0] * count
        self.ways = [None] * count
        self.visits = []
        self.now = -1

    def word(self, hand):
        way = self.ways[hand]
        if way is None:
            return "out"
        return "within" if way.coming is None else way.coming[0]

    def hands(self):
        return [(flag, ticket, self.word(hand)) for hand, (flag, ticket) in enumerate(zip(self.flags, self.tickets))]

    def told(self):
        names = ("hand", "wanted", "lowers", "draws", "enters", "left")
        return [tuple(visit.get(name) for name in names) for visit in self.visits]

    def visit(self, hand):
        return [visit for visit in self.visits if visit["hand"] == hand][-1]

    def step(self, hand):
        done = self.ways[hand].step()
        self.visit(hand)[done[0]] = done[2] if done[0] == "draws" else self.now
        return done

    def leave(self, hand):
        had = self.tickets[hand]
        self.flags[hand] = False
        self.tickets[hand] = 0
        self.ways[hand] = None
        self.visit(hand)["left"] = self.now
        return had

    def round(self):
        went_in = []
        for hand in range(len(self.ways)):
            if self.word(hand) == "within":
                self.leave(hand)
            elif self.word(hand) != "out" and self.step(hand)[0] == "enters":
                went_in.append(hand)
        return went_in

    def refusal(self, deed):
        if deed[1] not in range(len(self.ways)):
            return "no hand"
        word = self.word(deed[1])
        place = word if word in ("within", "out") else "on its way"
        refused = {"want": ("within", "on its way"), "go": ("within", "out"), "leave": ("out",)}
        return place if place in refused[deed[0]] else None

    def answer(self, deed):
        self.now += 1
        if deed == ("round",):
            return self.round()
        refused = self.refusal(deed)
        if refused:
            return refused
        hand = deed[1]
        if deed[0] == "want":
            self.ways[hand] = Way(hand, self.flags, self.tickets)
            self.visits.append({"hand": hand, "wanted": self.now})
            return len(self.visits) - 1
        if deed[0] == "leave":
            return self.leave(hand)
        done = []
        while len(done) < deed[2] and self.word(hand) != "within":
            done.append(self.step(hand))
        return done


def chosen(chance, count, manys):
    """One deed, drawn so that wrong ones come now and then."""
    hand = chance.choice(NO_HANDS + (count,)) if chance.random() < 0.02 else chance.randrange(count)
    kind = chance.choices(("want", "go", "leave", "round"), (30, 50, 6, 20))[0]
    if kind == "round":
        return ("round",)
    return ("go", hand, chance.choice(manys)) if kind == "go" else (kind, hand)


def stories(counts, many, length, manys, seed):
    """Stories drawn from a fixed seed, so that each run is the same."""
    for count in counts:
        chance = random.Random(100 * seed + count)
        for story in range(many):
            yield count, [chosen(chance, count, manys) for deed in range(length)]


def small_stories(count, length, manys):
    """Every story of so many deeds."""
    hands = range(count)
    deeds = [("want", hand) for hand in hands] + [("leave", hand) for hand in hands] + [("round",)]
    deeds += [("go", hand, many) for hand in hands for many in manys]
    return [list(story) for story in itertools.product(deeds, repeat=length)]


def on_the_way(hands):
    return [hand for hand, (flag, ticket, word) in enumerate(hands) if word not in ("within", "out")]


class AgainstTheModel(unittest.TestCase):
    """Points 2 to 5, 11 and 12."""

    def same(self, count, deeds):
        model = Model(count)
        said = answers(count, deeds)
        self.assertEqual(len(said), len(deeds))
        for place, deed in enumerate(deeds):
            if said[place] != model.answer(deed):
                self.fail(f"{count} hands, {deeds[:place + 1]}: {said[place]}")
        self.assertEqual(all_after(count, deeds), (model.told(), model.hands()))

    def test_every_small_story(self):
        for count, length, manys in ((1, 6, (1, 5)), (2, 4, (3, 9)), (2, 5, (4,)), (3, 4, (6,))):
            for deeds in small_stories(count, length, manys):
                self.same(count, deeds)

    def test_stories_of_two_hundred_deeds(self):
        for count, deeds in stories((1, 2, 3, 5, 8, 13, 20), 12, 200, (0, 1, 1, 2, 3, 5, 8, 100), 1):
            self.same(count, deeds)

    def test_stories_of_small_steps(self):
        for count, deeds in stories((2, 3, 4), 80, 120, (1, 1, 1, 2), 2):
            self.same(count, deeds)

    def test_stories_beyond_the_bounds(self):
        for count, deeds in stories((22, 26), 3, 260, (1, 30, 130), 3):
            self.same(count, deeds)


class WhatComesOfIt(unittest.TestCase):
    """Points 6 to 10."""

    def one_within_and_its_ticket_first(self, visits, hands):
        inside = [(ticket, hand) for hand, (flag, ticket, word) in enumerate(hands) if word == "within"]
        self.assertLessEqual(len(inside), 1)
        if inside:
            drawn = [(ticket, hand) for hand, (flag, ticket, word) in enumerate(hands) if ticket > 0]
            self.assertEqual(min(drawn), inside[0])

    def who_lowered_first_is_first(self, visits, hands):
        for earlier, later in itertools.permutations(visits, 2):
            if earlier[2] is None or earlier[2] >= later[1] or earlier[5] is not None:
                continue
            self.assertTrue(later[4] is None or (earlier[4] is not None and earlier[4] < later[4]))
            self.assertTrue(later[3] is None or earlier[3] < later[3])

    def no_greater_ticket_than_visits(self, visits, hands):
        told = [ticket for flag, ticket, word in hands] + [visit[3] or 0 for visit in visits]
        self.assertLessEqual(max(told), len(visits))

    def alone_it_comes_in(self, count, deeds, hands):
        out = [word == "out" for flag, ticket, word in hands]
        for hand in on_the_way(hands):
            if out.count(False) == 1:
                after = all_after(count, deeds + [("go", hand, steps_alone(count))])[1]
                self.assertEqual(after[hand][2], "within")

    def rounds_bring_all_out(self, count, deeds, hands):
        more = [("round",)] * rounds_enough(count)
        self.assertEqual(all_after(count, deeds + more)[1], [(False, 0, "out")] * count)
        went_in = sum(answers(count, deeds + more)[len(deeds):], [])
        self.assertEqual(sorted(went_in), on_the_way(hands))

    def holds_after(self, count, deeds):
        visits, hands = all_after(count, deeds)
        self.one_within_and_its_ticket_first(visits, hands)
        self.who_lowered_first_is_first(visits, hands)
        self.no_greater_ticket_than_visits(visits, hands)
        self.alone_it_comes_in(count, deeds, hands)
        self.assertIs(fair(visits), True)
        self.assertEqual(read(shown(visits)), visits)

    def test_every_small_story(self):
        for count, length, manys in ((1, 5, (1, 3)), (2, 4, (3, 9)), (3, 4, (6,))):
            for deeds in small_stories(count, length, manys):
                self.holds_after(count, deeds)

    def test_behind_each_deed(self):
        for count, deeds in stories((1, 2, 3, 4, 6), 14, 60, (1, 1, 2, 3, 5), 4):
            for many in range(len(deeds) + 1):
                self.holds_after(count, deeds[:many])

    def test_behind_each_deed_of_many_hands(self):
        for count, deeds in stories((20,), 3, 200, (1, 10, 22, 60), 5):
            for many in range(0, len(deeds) + 1, 7):
                self.holds_after(count, deeds[:many])

    def test_rounds_behind_each_deed(self):
        for count, deeds in stories((1, 2, 3, 4), 12, 40, (1, 1, 2, 3, 5), 6):
            for many in range(len(deeds) + 1):
                self.rounds_bring_all_out(count, deeds[:many], all_after(count, deeds[:many])[1])

    def test_rounds_of_many_hands(self):
        for count, deeds in stories((8, 20), 3, 200, (1, 10, 22, 60), 7):
            self.rounds_bring_all_out(count, deeds, all_after(count, deeds)[1])


class Numbers(unittest.TestCase):
    """Points 8 to 10, where the document gives the very numbers."""

    def test_steps_alone(self):
        self.assertEqual([steps_alone(count) for count in (1, 2, 3, 4, 20)], [4, 7, 10, 13, 61])

    def test_rounds_enough(self):
        self.assertEqual([rounds_enough(count) for count in (1, 2, 3, 4, 20)], [5, 12, 23, 38, 822])

    def test_just_so_many_steps_from_the_beginning_on(self):
        for count in range(1, 21):
            for hand in (0, count // 2, count - 1):
                needed = steps_alone(count)
                said = answers(count, [("want", hand), ("go", hand, needed - 1), ("go", hand, 5)])
                self.assertEqual((len(said[1]), said[2]), (needed - 1, [("enters", None, 1)]))

    def test_all_want_in_at_once_and_go_in_by_their_numbers(self):
        for count in (1, 2, 3, 7, 20):
            deeds = [("want", hand) for hand in range(count)][::-1] + [("round",)] * rounds_enough(count)
            self.assertEqual(sum(answers(count, deeds)[count:], []), list(range(count)))
            self.assertEqual(all_after(count, deeds)[1], [(False, 0, "out")] * count)

    def test_who_lowered_first_goes_in_first(self):
        ahead = []
        for hand in (2, 0, 1):
            ahead += [("want", hand), ("go", hand, 5)]
        self.assertEqual([ticket for flag, ticket, word in all_after(3, ahead)[1]], [2, 3, 1])
        said = answers(3, ahead + [("round",)] * rounds_enough(3))
        self.assertEqual(sum(said[6:], []), [2, 0, 1])

    def test_tickets_up_to_how_many_visits_there_were(self):
        deeds = []
        for hand in range(20):
            deeds += [("want", hand), ("go", hand, 22)]
        self.assertEqual([visit[3] for visit in all_after(20, deeds)[0]], list(range(1, 21)))
        deeds = [("want", 0), ("go", 0, 100)]
        for visit in range(1, 50):
            comes = visit % 2
            deeds += [("want", comes), ("go", comes, 5), ("leave", 1 - comes), ("go", comes, 100)]
        self.assertEqual([visit[3] for visit in all_after(2, deeds)[0]], list(range(1, 51)))

    def test_never_two_within_whoever_goes_on(self):
        for first, second in ((0, 1), (1, 0)):
            deeds = [("want", first), ("want", second), ("go", first, 100), ("go", second, 100), ("go", first, 100)]
            self.assertEqual([word for flag, ticket, word in all_after(2, deeds)[1]].count("within"), 1)


class NothingFromOutside(unittest.TestCase):
    """Point 1."""

    def test_nothing_handed_in_is_changed(self):
        for count, deeds in stories((2, 5), 5, 100, (1, 3, 100), 8):
            kept = copy.deepcopy(deeds)
            answers(count, deeds)
            visits = all_after(count, deeds)[0]
            self.assertEqual(deeds, kept)
            kept = copy.deepcopy(visits)
            fair(visits)
            lines = shown(visits)
            self.assertEqual(visits, kept)
            kept = copy.deepcopy(lines)
            read(lines)
            self.assertEqual(lines, kept)

    def test_the_same_story_comes_to_the_same(self):
        for count, deeds in stories((3, 20), 3, 150, (1, 3, 100), 9):
            self.assertEqual(answers(count, deeds), answers(count, deeds))
            self.assertEqual(all_after(count, deeds), all_after(count, deeds))


if __name__ == "__main__":
    unittest.main()
