"""Point 13: papers of losses."""

import random
import unittest

from emberlane.errors import NoKindlings, NoNet
from emberlane.fates import losses, losses_hold
from tests.helpers import (
    LawTest, Stranger, bad_kindlings, bad_nets, deep, deep_pair, later, some_cases_in_any_order, strange_things, times,
    walk)

NET = ((2, 2), (2, 2), (9, None))
# Flame 4 burns lamp 2 when 0 and 1 come to it together, and 2 and 3 a beat later.
KINDLINGS = [(0, 0), (0, 1), (3, 2), (3, 2), (0, 2)]
HORIZON = 120


def comings_alone(net, kindlings):
    """For each flame a dict: the lamp to which it comes at a beat, as the only one."""
    told = []
    for kindling in kindlings:
        rows = walk(net, [kindling], HORIZON)[0]
        told.append({row[1]: row[2] for row in rows if row[0] == "lit"})
    return told


def holds_by_words(net, kindlings, paper):
    """What the document says of a paper, clause by clause; for papers that have the form of losses."""
    flames = range(len(kindlings))
    lost_at = {row[2]: row[0] for row in paper}
    if len(lost_at) < len(paper) or paper != sorted(paper):
        return False
    comings = comings_alone(net, kindlings)

    def robs(other, flame, beat, lamp):
        """Whether other holds flame off the lamp at that beat."""
        if other == flame or lost_at.get(other, HORIZON) <= beat:
            return False
        lit = [at for at in comings[other] if comings[other][at] == lamp]
        return beat in lit and other < flame or any(at < beat < at + net[lamp][0] for at in lit)

    for beat, lamp, flame, other in paper:
        if flame not in flames or other not in flames or comings[flame].get(beat) != lamp:
            return False
        if not robs(other, flame, beat, lamp):
            return False
    for flame in flames:
        for beat, lamp in comings[flame].items():
            if beat < lost_at.get(flame, HORIZON) and any(robs(other, flame, beat, lamp) for other in flames):
                return False
    return True


def other_papers(dice, net, kindlings, paper):
    """Papers that have something left out, put in, exchanged or told otherwise."""
    flames = len(kindlings)
    some_row = (dice.randint(0, 20), dice.randrange(len(net)), dice.randrange(flames), dice.randrange(flames))
    told = [sorted(paper + [some_row])]
    if not paper:
        return told
    at = dice.randrange(len(paper))
    told += [paper[:at] + paper[at + 1:], paper[:at] + [paper[at]] + paper[at:], paper[::-1], paper + paper, []]
    for part in range(4):
        for by in (-1, 1, dice.randint(-3, 3)):
            row = list(paper[at])
            row[part] += by
            told.append(sorted(paper[:at] + [tuple(row)] + paper[at + 1:]))
    return told


class HoldTest(LawTest):
    def holds(self, paper, net=NET, kindlings=KINDLINGS):
        told = self.both_ways(losses_hold, net=net, kindlings=kindlings, paper=paper)
        self.assertIsInstance(told, bool)
        return told

    def yes(self, paper, net=NET, kindlings=KINDLINGS):
        self.assertIs(self.holds(paper, net, kindlings), True)

    def no(self, paper, net=NET, kindlings=KINDLINGS):
        self.assertIs(self.holds(paper, net, kindlings), False)

    def setUp(self):
        self.paper = losses(NET, KINDLINGS)

    def test_the_told_losses_hold(self):
        self.assertEqual(self.paper, [(2, 2, 0, 4), (2, 2, 1, 4), (3, 2, 2, 4), (3, 2, 3, 4)])
        self.yes(self.paper)
        self.yes(losses(NET, KINDLINGS))

    def test_nobody_lost(self):
        self.yes([], kindlings=[])
        self.yes([], kindlings=[(0, 0)])
        self.no([])
        for row in self.paper:
            self.no([row], kindlings=[])
            self.no([row], kindlings=[(0, 0), (3, 1)])

    def test_a_row_left_out(self):
        for at in range(4):
            self.no(self.paper[:at] + self.paper[at + 1:])

    def test_a_row_twice(self):
        for at, row in enumerate(self.paper):
            self.no(self.paper[:at] + [row] + self.paper[at:])
            self.no(self.paper + [row])

    def test_a_row_put_in(self):
        for row in ((0, 0, 0, 4), (0, 2, 4, 0), (3, 2, 4, 3), (9, 2, 4, 0), (11, 2, 4, 3), (2, 2, 5, 4)):
            for at in range(5):
                self.no(self.paper[:at] + [row] + self.paper[at:])

    def test_rows_exchanged(self):
        for at in range(4):
            for behind in range(at + 1, 4):
                paper = list(self.paper)
                paper[at], paper[behind] = paper[behind], paper[at]
                self.no(paper)

    def test_another_beat_lamp_flame_or_other_one(self):
        for at, row in enumerate(self.paper):
            for part in range(4):
                for number in list(range(-1, 6)) + [2 ** 70, -2 ** 70]:
                    if number != row[part]:
                        told = row[:part] + (number,) + row[part + 1:]
                        self.no(self.paper[:at] + [told] + self.paper[at + 1:])

    def test_lost_to_one_that_is_lost_itself_at_that_beat(self):
        self.no([(2, 2, 0, 4), (2, 2, 1, 0), (3, 2, 2, 4), (3, 2, 3, 4)])
        net, kindlings = ((3, 1), (5, None)), [(0, 0), (3, 1), (3, 1)]
        self.yes([(3, 1, 1, 0), (3, 1, 2, 0)], net, kindlings)
        self.no([(3, 1, 1, 0), (3, 1, 2, 1)], net, kindlings)
        self.no([(3, 1, 0, 1), (3, 1, 2, 1)], net, kindlings)

    def test_tuples_and_lists_exchanged(self):
        self.no(tuple(self.paper))
        self.no(())
        self.no((), kindlings=[])
        self.no([list(row) for row in self.paper])
        for at, row in enumerate(self.paper):
            self.no(self.paper[:at] + [list(row)] + self.paper[at + 1:])

    def test_numbers_of_other_kinds(self):
        net, kindlings = ((1, 1), (5, None)), [(0, 1), (0, 0)]
        self.yes([(1, 1, 1, 0)], net, kindlings)
        for row in ((True, 1, 1, 0), (1, True, 1, 0), (1, 1, True, 0), (1, 1, 1, False), (True, True, True, False),
                    (1.0, 1, 1, 0), (1, 1.0, 1, 0), (1, 1, 1.0, 0), (1, 1, 1, 0.0), (1, 1, 1, 0j),
                    ("1", 1, 1, 0), (1, 1, 1, None), (1, 1, 1, "0"), (1, 1, (1,), 0), (1, 1, 1, [0])):
            self.no([row], net, kindlings)

    def test_rows_of_other_lengths(self):
        for at, row in enumerate(self.paper):
            for told in ((), row[:1], row[:3], row + (0,), row + (None,), row + row, ("lost",) + row):
                self.no(self.paper[:at] + [told] + self.paper[at + 1:])

    def test_anything(self):
        for thing in strange_things() + [None, 0, -1, Stranger()]:
            if thing != []:
                self.no(thing, kindlings=[])
            self.no(thing)
            self.no([thing])
            self.no([thing], kindlings=[])
            self.no([self.paper[0], thing, self.paper[2], self.paper[3]])
            self.no([self.paper[0], (2, 2, 1, thing)] + self.paper[2:])
            self.no([self.paper[0], (thing, 2, 1, 4)] + self.paper[2:])
            self.no(self.paper + [thing])

    def test_a_hundred_deep(self):
        for kind in (tuple, list):
            for thing in (deep(kind), deep_pair(kind), deep(kind, 99), deep_pair(kind, 98)):
                self.no(thing)
                self.no(thing, kindlings=[])
                self.no([thing])
                self.no([(thing, thing, thing, thing)])

    def test_just_the_told_losses_hold_as_the_clauses_say(self):
        dice = random.Random(51)
        many = 0
        for net, kindlings in some_cases_in_any_order(52, 150):
            paper = losses(net, kindlings)
            self.assertTrue(holds_by_words(net, kindlings, paper))
            self.yes(paper, net, kindlings)
            if not kindlings:
                continue
            for other in other_papers(dice, net, kindlings, paper):
                self.assertEqual(self.holds(other, net, kindlings), holds_by_words(net, kindlings, other))
                self.assertEqual(self.holds(other, net, kindlings), other == paper)
                many += other != paper
        self.assertGreater(many, 1000)

    def test_great_numbers(self):
        factor = 10 ** 57
        for net, kindlings in some_cases_in_any_order(53, 50):
            told = losses(net, kindlings)
            paper = [(row[0] * factor,) + row[1:] for row in told]
            self.yes(paper, *times(net, kindlings, factor))
            if paper:
                self.no([(paper[0][0] + 1,) + paper[0][1:]] + paper[1:], *times(net, kindlings, factor))
            self.yes([(row[0] + factor,) + row[1:] for row in told], net, later(kindlings, factor))

    def test_the_paper_is_not_changed(self):
        paper = self.paper[::-1]
        handed = list(paper)
        losses_hold(NET, KINDLINGS, handed)
        self.assertEqual(handed, paper)

    def test_refusals(self):
        self.refuses_in_order(losses_hold, [
            ("net", NET, bad_nets(), NoNet), ("kindlings", KINDLINGS, bad_kindlings(NET), NoKindlings),
            ("paper", self.paper, [], None)])

    def test_refusals_go_ahead_of_a_paper_of_anything(self):
        for paper in strange_things() + [None, [], self.paper]:
            self.refuses_both_ways(NoNet, losses_hold, net=(), kindlings=KINDLINGS, paper=paper)
            self.refuses_both_ways(NoKindlings, losses_hold, net=NET, kindlings=(), paper=paper)


if __name__ == "__main__":
    unittest.main()
