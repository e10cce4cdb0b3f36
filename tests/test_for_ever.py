"""Point 18, and what point 4 says of it: lamps that burn for ever."""

import itertools
import random
import unittest

from emberlane.errors import NoBeat, NoKindlings, NoLamp, NoNet
from emberlane.fates import burning_at, fates, losses
from emberlane.nets import lap_of, rings, way_of
from emberlane.rests import burns_from, can_burn, gaps, keepers, rest_of
from tests.helpers import (
    SIXTY_FIGURES, LawTest, bad_beats, bad_kindlings, bad_nets, bad_numbers, later, net_of_rings, ring_cases,
    some_cases_in_any_order, times, walk, walk_to_rest)

# Ring 0, 1, 2 of 6 beats, three lengths; 3 leads to it; 4 is its own next; 5, 6 of 5 beats; 7 ends.
NET = ((2, 1), (2, 2), (2, 0), (3, 1), (4, 4), (3, 6), (2, 5), (9, None))

FACTOR = 10 ** 57


def burning_by_walk(net, kindlings):
    """For each lamp the least beat from which on it burns at every beat by the walk, or None; and first."""
    first, again, _, pictures = walk_to_rest(net, kindlings)
    told = []
    for lamp in range(len(net)):
        lit = [picture[lamp] is not None for picture in pictures]
        beat = None
        if all(lit[first:first + again]):
            beat = first
            while beat > 0 and lit[beat - 1]:
                beat -= 1
        told.append(beat)
    return told, first


def walked_cases():
    cases = ring_cases(71, 500, 8, most_length=3) + ring_cases(72, 200, 5) + some_cases_in_any_order(73, 100)
    return [(net, kindlings) + burning_by_walk(net, kindlings) for net, kindlings in cases]


CASES = walked_cases()


class CasesTest(unittest.TestCase):
    """The drawn cases are worth the while."""

    def test_there_is_something_of_each_kind(self):
        kinds = dict.fromkeys(("from first on", "ahead of first", "from 0 on", "of several flames", "a way in"), 0)
        for net, kindlings, told, first in CASES:
            for lamp, beat in enumerate(told):
                if beat is None:
                    continue
                kinds["from first on"] += beat == first
                kinds["ahead of first"] += beat < first
                kinds["from 0 on"] += beat == 0
                kinds["of several flames"] += len(gaps(net, kindlings, lamp)) > 1
                kinds["a way in"] += any(at != lamp for _, at in kindlings)
        for kind, many in kinds.items():
            self.assertGreater(many, 50, kind)


class BurnsFromTest(LawTest):
    def burns(self, net, kindlings, lamp):
        return self.both_ways(burns_from, net=net, kindlings=kindlings, lamp=lamp)

    def test_none_where_nothing_is_kindled(self):
        for lamp in range(len(NET)):
            self.assertIsNone(self.burns(NET, [], lamp))

    def test_a_lamp_that_is_its_own_next(self):
        self.assertEqual(self.burns(NET, [(0, 4)], 4), 0)
        self.assertEqual(self.burns(NET, [(7, 4)], 4), 7)
        self.assertEqual(self.burns(NET, [(7, 4), (5, 4), (9, 4)], 4), 5)
        self.assertEqual(self.burns(((1, 0),), [(6, 0)], 0), 6)

    def test_as_many_flames_as_go(self):
        for lamp, beat in ((0, 0), (1, 2), (2, 4)):
            self.assertEqual(self.burns(NET, [(0, 0), (2, 0), (4, 0)], lamp), beat)
        self.assertEqual(self.burns(NET, [(1, 0), (1, 1), (1, 2)], 1), 1)

    def test_each_lamp_of_a_ring_from_its_own_beat_on(self):
        kindlings = [(10, 0), (12, 0), (14, 0)]
        self.assertEqual([self.burns(NET, kindlings, lamp) for lamp in range(8)], [10, 12, 14] + [None] * 5)

    def test_one_flame_too_few(self):
        for lamp in range(3):
            self.assertIsNone(self.burns(NET, [(0, 0), (2, 0)], lamp))
            self.assertIsNone(self.burns(NET, [(0, 0), (3, 0)], lamp))
            self.assertIsNone(self.burns(NET, [(0, 0), (2, 0), (5, 0)], lamp))

    def test_as_many_flames_as_go_but_the_longest_does_not_divide_the_lap(self):
        net = ((3, 1), (2, 0))
        for lamp in range(2):
            self.assertIsNone(self.burns(net, [(0, 0)], lamp))
            self.assertIsNone(self.burns(net, [(0, 0), (3, 0)], lamp))

    def test_only_a_longest_lamp(self):
        net = ((2, 1), (1, 2), (2, 3), (1, 0))
        kindlings = [(0, 0), (2, 0), (4, 0)]
        self.assertEqual([self.burns(net, kindlings, lamp) for lamp in range(4)], [0, None, 3, None])

    def test_a_lamp_that_no_ring_has(self):
        self.assertIsNone(self.burns(NET, [(0, 3), (3, 3), (6, 3)], 3))
        self.assertIsNone(self.burns(NET, [(9 * at, 7) for at in range(40)], 7))

    def test_from_a_beat_that_lies_ahead_of_first(self):
        # A flame of another ring, and one of a way that ends, come to rest much later.
        kindlings = [(0, 0), (2, 0), (4, 0), (100, 4), (200, 7)]
        self.assertEqual(rest_of(NET, kindlings)[0], 209)
        self.assertEqual([self.burns(NET, kindlings, lamp) for lamp in range(5)], [0, 2, 4, None, 100])
        # The last flame comes onto the ring at lamp 2 just as it is due at lamp 0.
        self.assertEqual(rest_of(NET, [(0, 0), (2, 0), (2, 2)])[0], 2)
        self.assertEqual(self.burns(NET, [(0, 0), (2, 0), (2, 2)], 0), 0)

    def test_a_way_that_is_far_longer_than_the_laps_ahead(self):
        # Flame 0 goes alone many laps; then the flame 1 fills what it leaves dark, once it is there.
        net = ((3, 1), (3, 0))
        for gone in (0, 1, 4, 10 ** 20, 10 ** 57):
            kindlings = [(0, 0), (3 + 6 * gone, 0)]
            self.assertEqual(self.burns(net, kindlings, 0), 6 * gone)
            self.assertEqual(self.burns(net, kindlings, 1), 6 * gone + 3)
            self.assertEqual(self.burns(net, kindlings[::-1], 0), 6 * gone)

    def test_lit_from_without_till_the_flames_of_the_ring_come(self):
        # The flame 0 lights lamp 0 at 0 and is lost at lamp 1 as the next one comes; 2 and 3 go on for ever.
        net, kindlings = ((2, 1), (2, 0)), [(0, 0), (1, 1), (2, 0), (4, 0)]
        self.assertEqual(fates(net, kindlings), [("lost", 2, 1, 1), ("lost", 3, 0, 2), ("goes", 0, 2), ("goes", 0, 4)])
        self.assertEqual(self.burns(net, kindlings, 0), 0)
        self.assertEqual(self.burns(net, kindlings[1:], 0), 2)
        # A flame of a way in that ends up on the ring lights it but once it has come there.
        net = ((2, 1), (2, 0), (6, 0))
        self.assertEqual(self.burns(net, [(0, 2), (4, 0)], 0), 4)
        self.assertEqual(self.burns(net, [(0, 2), (4, 0)], 1), 6)
        self.assertEqual([self.burns(net, [(0, 2), (6, 1)], lamp) for lamp in range(2)], [6, 6])

    def test_lost_flames_that_lit_it_for_a_while(self):
        many = 0
        for net, kindlings, told, _ in CASES:
            for lamp, beat in enumerate(told):
                if beat is None:
                    continue
                lost = {row[2] for row in losses(net, kindlings)}
                kept = [kindling for flame, kindling in enumerate(kindlings) if flame not in lost]
                self.assertGreaterEqual(self.burns(net, kept, lamp), beat)
                many += self.burns(net, kept, lamp) > beat
        self.assertGreater(many, 10)

    def test_those_of_the_walk(self):
        for net, kindlings, told, _ in CASES:
            self.assertEqual([self.burns(net, kindlings, lamp) for lamp in range(len(net))], told)

    def test_all_lengths_and_beats_many_times_as_great(self):
        for net, kindlings, told, _ in CASES:
            greater = times(net, kindlings, FACTOR)
            self.assertEqual([burns_from(*greater, lamp) for lamp in range(len(net))], [
                beat and beat * FACTOR for beat in told])

    def test_all_beats_later(self):
        for net, kindlings, told, _ in CASES:
            for beats in (1, 10 ** 59):
                behind = later(kindlings, beats)
                self.assertEqual([burns_from(net, behind, lamp) for lamp in range(len(net))], [
                    None if beat is None else beat + beats for beat in told])

    def test_one_of_the_flames_whole_laps_later(self):
        dice = random.Random(74)
        many = 0
        for net, kindlings, _, _ in CASES:
            if not kindlings:
                continue
            at = dice.randrange(len(kindlings))
            beat, lamp = kindlings[at]
            if lap_of(net, lamp) is None or any(lamp in way_of(net, one)[0] for _, one in kindlings):
                continue
            lap = lap_of(net, lamp)[0]
            near, far = 200 * lap, 10 ** 57 * lap
            kindlings = list(kindlings)
            kindlings[at] = (beat + near, lamp)
            told, _ = burning_by_walk(net, kindlings)
            kindlings[at] = (beat + near + far, lamp)
            for one, start in enumerate(told):
                if start is not None:
                    # Where the late one is what lets it burn for ever, it does so as much later.
                    behind = start + far if start > near // 2 else start
                    self.assertEqual(burns_from(net, kindlings, one), behind)
                    many += 1
                else:
                    self.assertIsNone(burns_from(net, kindlings, one))
        self.assertGreater(many, 50)

    def test_just_where_it_is_a_longest_one_and_all_gaps_are_its_length(self):
        for net, kindlings, told, _ in CASES:
            for lamp in range(len(net)):
                _, ring = way_of(net, lamp)
                between = gaps(net, kindlings, lamp) if lamp in ring else []
                length = net[lamp][0]
                longest = bool(between) and length == lap_of(net, lamp)[1]
                self.assertEqual(told[lamp] is not None, longest and all(gap == length for gap in between))

    def test_a_lamp_that_can_not_burn_for_ever_never_does(self):
        for net, _, told, _ in CASES:
            for lamp in range(len(net)):
                self.assertTrue(told[lamp] is None or can_burn(net, lamp))

    def test_refusals(self):
        self.refuses_in_order(burns_from, [
            ("net", NET, bad_nets(), NoNet), ("kindlings", [(0, 0)], bad_kindlings(NET), NoKindlings),
            ("lamp", 0, bad_numbers(len(NET)), NoLamp)])


class CanBurnTest(LawTest):
    def can(self, net, lamp):
        told = self.both_ways(can_burn, net=net, lamp=lamp)
        self.assertIsInstance(told, bool)
        return told

    def test_whether_it_can(self):
        self.assertEqual([self.can(NET, lamp) for lamp in range(8)], [True] * 3 + [False, True] + [False] * 3)
        self.assertEqual([self.can(((1, 1), (2, 0)), lamp) for lamp in range(2)], [False, False])
        self.assertEqual([self.can(((2, 1), (1, 2), (2, 3), (1, 0)), lamp) for lamp in range(4)], [
            True, False, True, False])
        self.assertEqual([self.can(((2, 1), (1, 2), (1, 0), (2, 0)), lamp) for lamp in range(4)], [
            True, False, False, False])
        self.assertIs(self.can(((5, None),), 0), False)
        self.assertIs(self.can(((5, 1), (5, None)), 0), False)

    def test_against_all_kindlings_of_small_rings(self):
        dice = random.Random(75)
        for _ in range(25):
            net = net_of_rings(dice, 1, 3, ways=1)
            for ring in rings(net):
                lap, _ = lap_of(net, ring[0])
                if lap > 7:
                    continue
                burning = {lamp: set() for lamp in range(len(net))}
                for many in range(lap + 1):
                    for beats in itertools.combinations(range(lap), many):
                        told, _ = burning_by_walk(net, [(beat, ring[0]) for beat in beats])
                        for lamp, beat in enumerate(told):
                            if beat is not None:
                                burning[lamp].add(many)
                for lamp in range(len(net)):
                    self.assertEqual(self.can(net, lamp), bool(burning[lamp]))
                    if burning[lamp]:
                        self.assertEqual(min(burning[lamp]), len(keepers(net, lamp, 0)))

    def test_sixty_figures(self):
        length = SIXTY_FIGURES
        self.assertIs(self.can(((length, 1), (length, 0)), 0), True)
        self.assertIs(self.can(((length, 1), (length - 1, 0)), 0), False)
        self.assertIs(self.can(((length, 1), (length - 1, 2), (1, 0)), 0), True)
        self.assertIs(self.can(((length, 1), (length - 1, 2), (1, 0)), 2), False)

    def test_refusals(self):
        self.refuses_in_order(can_burn, [("net", NET, bad_nets(), NoNet), ("lamp", 0, bad_numbers(len(NET)), NoLamp)])


class KeepersTest(LawTest):
    def keepers(self, net, lamp, beat):
        return self.both_ways(keepers, net=net, lamp=lamp, beat=beat)

    def test_the_first_at_that_beat_and_each_other_one_the_length_behind(self):
        self.assertEqual(self.keepers(NET, 0, 0), [(0, 0), (2, 0), (4, 0)])
        self.assertEqual(self.keepers(NET, 2, 7), [(7, 2), (9, 2), (11, 2)])
        self.assertEqual(self.keepers(NET, 4, 5), [(5, 4)])
        self.assertEqual(self.keepers(((2, 1), (1, 2), (2, 3), (1, 0)), 2, 1), [(1, 2), (3, 2), (5, 2)])
        self.assertEqual(self.keepers(tuple((1, (at + 1) % 12) for at in range(12)), 3, 9), [
            (9 + at, 3) for at in range(12)])

    def test_none_where_it_can_not_be(self):
        for lamp in (3, 5, 6, 7):
            self.assertIsNone(self.keepers(NET, lamp, 0))
            self.assertIsNone(self.keepers(NET, lamp, SIXTY_FIGURES))

    def test_it_burns_from_that_beat_on_and_with_one_fewer_it_does_not(self):
        many = 0
        for net, _, _, _ in CASES:
            for lamp in range(len(net)):
                for beat in (0, 3, SIXTY_FIGURES):
                    told = self.keepers(net, lamp, beat)
                    self.assertEqual(told is not None, can_burn(net, lamp))
                    if told is None:
                        continue
                    self.assertEqual(burns_from(net, told, lamp), beat)
                    self.assertEqual(losses(net, told), [])
                    for at in range(len(told)):
                        self.assertIsNone(burns_from(net, told[:at] + told[at + 1:], lamp))
                    many += len(told) > 1
        self.assertGreater(many, 100)

    def test_by_the_walk(self):
        for net in (NET, ((3, 1), (1, 2), (2, 0)), ((2, 1), (1, 2), (2, 3), (1, 0))):
            for lamp in range(len(net)):
                for beat in (0, 4):
                    told = self.keepers(net, lamp, beat)
                    if told is not None:
                        pictures = walk(net, told, 60)[1]
                        self.assertEqual([picture[lamp] is not None for picture in pictures], [
                            at >= beat for at in range(60)])

    def test_sixty_figures(self):
        length = SIXTY_FIGURES
        net = ((length, 1), (length - 1, 2), (1, 0))
        told = self.keepers(net, 0, length)
        self.assertEqual(told, [(length, 0), (2 * length, 0)])
        self.assertEqual(burns_from(net, told, 0), length)
        for beat in (length - 1, length, 10 ** 90):
            self.assertEqual(burning_at(net, told, beat)[0] is not None, beat >= length)

    def test_a_new_list(self):
        told, again = keepers(NET, 0, 0), keepers(NET, 0, 0)
        self.assertIsInstance(told, list)
        told.clear()
        self.assertEqual(keepers(NET, 0, 0), again)

    def test_refusals(self):
        for lamp in (0, 3, 7):
            self.refuses_in_order(keepers, [
                ("net", NET, bad_nets(), NoNet), ("lamp", lamp, bad_numbers(len(NET)), NoLamp),
                ("beat", 0, bad_beats(), NoBeat)])


if __name__ == "__main__":
    unittest.main()
