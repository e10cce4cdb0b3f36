"""Points 16 and 17: rests, the lamps' own rounds, and the gaps of rings."""

import math
import random
import unittest

from emberlane.errors import NoKindlings, NoLamp, NoNet, NoRing
from emberlane.fates import burning_at, fates
from emberlane.nets import lap_of, rings, way_of
from emberlane.rests import gaps, rest_of, round_of_lamps
from tests.helpers import (
    SIXTY_FIGURES, LawTest, bad_kindlings, bad_nets, bad_numbers, lamps_alone, later, long_walk, ring_cases,
    rows_of_embers, some_cases_in_any_order, times, walk, walk_to_rest)

# Rings 0, 1 of 5 beats and 4, 5, 6 of 9; 2 leads to the first, 7 to 2, 3 ends.
NET = ((2, 1), (3, 0), (4, 1), (7, None), (3, 5), (2, 6), (4, 4), (6, 2))

FACTOR = 10 ** 57


def walked_cases():
    """Drawn cases with what their walks come to."""
    told = []
    for net, kindlings in ring_cases(61, 250) + ring_cases(62, 100, 9, most_rings=3) + some_cases_in_any_order(63, 150):
        told.append((net, kindlings) + walk_to_rest(net, kindlings))
    return told


CASES = walked_cases()


def going(net, kindlings):
    """The flames that go for ever."""
    return [flame for flame, fate in enumerate(fates(net, kindlings)) if fate[0] == "goes"]


def goes_on(net, kindlings):
    return bool(going(net, kindlings))


class CasesTest(unittest.TestCase):
    """The drawn cases are worth the while."""

    def test_there_is_something_of_each_kind(self):
        kinds = {}
        for net, kindlings, first, again, _, _ in CASES:
            found = {fate[0] for fate in fates(net, kindlings)}
            on_rings = [fate[1] for fate in fates(net, kindlings) if fate[0] == "goes"]
            laps = {lap_of(net, lamp)[0] for lamp in on_rings}
            if len(laps) > 1 and again > max(laps):
                found.add("unlike laps")
            if len(set(on_rings)) < len(on_rings):
                found.add("several on one ring")
            if round_of_lamps(net, kindlings) < again:
                found.add("lamps come again sooner")
            if not on_rings:
                found.add("nothing for ever")
            if rows_of_embers(net, kindlings, 10) is not None:
                found.add("by Embers")
            if [beat for beat, _ in kindlings] != sorted(beat for beat, _ in kindlings):
                found.add("not sorted")
            for kind in found:
                kinds[kind] = kinds.get(kind, 0) + 1
        for kind in ("lost", "ended", "goes", "unlike laps", "several on one ring", "lamps come again sooner",
                     "nothing for ever", "by Embers", "not sorted"):
            self.assertGreater(kinds[kind], 30, kind)

    def test_both_walks_tell_the_same(self):
        for net, kindlings in ring_cases(64, 60):
            self.assertEqual(long_walk(net, kindlings, 90), walk(net, kindlings, 90))


class RestTest(LawTest):
    def rest(self, net, kindlings):
        return self.both_ways(rest_of, net=net, kindlings=kindlings)

    def test_nothing_kindled(self):
        self.assertEqual(self.rest(NET, []), (0, 1))
        self.assertEqual(self.rest(((3, 0),), []), (0, 1))

    def test_where_nothing_burns_for_ever_the_round_is_one(self):
        self.assertEqual(self.rest(NET, [(0, 3)]), (7, 1))
        self.assertEqual(self.rest(NET, [(5, 3), (0, 3)]), (7, 1))
        self.assertEqual(self.rest(NET, [(7, 3), (0, 3)]), (14, 1))
        self.assertEqual(self.rest(((1, 1), (1, None)), [(9, 0)]), (11, 1))

    def test_from_the_beat_at_which_a_flame_comes_onto_its_ring(self):
        self.assertEqual(self.rest(NET, [(0, 0)]), (0, 5))
        self.assertEqual(self.rest(NET, [(8, 1)]), (8, 5))
        self.assertEqual(self.rest(NET, [(8, 2)]), (12, 5))
        self.assertEqual(self.rest(NET, [(8, 7)]), (18, 5))
        self.assertEqual(self.rest(NET, [(3, 5)]), (3, 9))
        self.assertEqual(self.rest(((1, 0),), [(6, 0)]), (6, 1))
        self.assertEqual(self.rest(((4, 0),), [(6, 0)]), (6, 4))

    def test_from_the_beat_at_which_the_last_one_is_lost(self):
        self.assertEqual(self.rest(NET, [(0, 0), (0, 2)]), (4, 5))
        self.assertEqual(fates(((2, 1), (3, 0)), [(0, 0), (7, 1)]), [("goes", 0, 0), ("lost", 7, 1, 0)])
        # Lost as it is kindled it burns at no beat, so there is nothing to wait for.
        self.assertEqual(self.rest(((2, 1), (3, 0)), [(0, 0), (7, 1)]), (0, 5))
        self.assertEqual(self.rest(((2, 1), (3, 0)), [(4, 0), (7 + 5 * 10 ** 58, 1)]), (4, 5))
        self.assertEqual(self.rest(((9, None),), [(0, 0)] * 40), (9, 1))
        self.assertEqual(self.rest(((9, None),), [(0, 0), (8, 0)]), (9, 1))
        # Lost far behind all laps that it went.
        net = ((5, 1), (1, 0))
        self.assertEqual(self.rest(net, [(0, 0), (6000005, 0)]), (6000006, 6))

    def test_several_rings_with_unlike_laps(self):
        self.assertEqual(self.rest(NET, [(0, 0), (0, 4)]), (0, 45))
        self.assertEqual(self.rest(NET, [(3, 4), (1, 2), (0, 3)]), (7, 45))
        net = ((4, 0), (6, 1), (10, 2), (7, 3), (15, None))
        self.assertEqual(self.rest(net, [(0, 0), (0, 1)]), (0, 12))
        self.assertEqual(self.rest(net, [(5, 2), (0, 0), (0, 1)]), (5, 60))
        self.assertEqual(self.rest(net, [(1, 4), (3, 3), (5, 2), (0, 0), (0, 1)]), (16, 420))

    def test_only_rings_on_which_flames_go(self):
        self.assertEqual(self.rest(NET, [(0, 4), (0, 3)]), (7, 9))
        self.assertEqual(self.rest(NET, [(0, 0), (1, 0), (0, 3)]), (7, 5))

    def test_several_flames_of_a_ring(self):
        # Flames aside it comes again behind two beats, but then the other one burns there.
        self.assertEqual(self.rest(((2, 1), (2, 0)), [(0, 0), (2, 0)]), (2, 4))

    def test_those_of_the_walk(self):
        for net, kindlings, first, again, _, _ in CASES:
            self.assertEqual(self.rest(net, kindlings), (first, again))

    def test_the_round_is_that_of_the_laps(self):
        for net, kindlings, _, again, _, _ in CASES:
            laps = [lap_of(net, fate[1])[0] for fate in fates(net, kindlings) if fate[0] == "goes"]
            self.assertEqual(again, math.lcm(*laps))

    def test_all_lengths_and_beats_many_times_as_great(self):
        for net, kindlings, first, again, _, _ in CASES:
            told = (first * FACTOR, again * FACTOR if goes_on(net, kindlings) else 1)
            self.assertEqual(rest_of(*times(net, kindlings, FACTOR)), told)

    def test_all_beats_later(self):
        for net, kindlings, first, again, _, _ in CASES:
            for beats in (1, 17, 10 ** 59):
                told = (first + beats if kindlings else 0, again)
                self.assertEqual(rest_of(net, later(kindlings, beats)), told)

    def test_what_burns_comes_again_however_far(self):
        dice = random.Random(65)
        for net, kindlings, _, _, _, _ in CASES[::5]:
            first, again = rest_of(*times(net, kindlings, FACTOR))
            net, kindlings = times(net, kindlings, FACTOR)
            for _ in range(5):
                beat = first + dice.randrange(SIXTY_FIGURES)
                self.assertEqual(burning_at(net, kindlings, beat), burning_at(net, kindlings, beat + again))
            if first > 0:
                self.assertNotEqual(
                    burning_at(net, kindlings, first - 1), burning_at(net, kindlings, first - 1 + again))

    def test_sixty_figures(self):
        length = SIXTY_FIGURES
        net = ((length, 1), (length - 1, 0), (length, 2), (length, None))
        self.assertEqual(self.rest(net, [(length, 0)]), (length, 2 * length - 1))
        self.assertEqual(self.rest(net, [(length, 0), (length, 3)]), (2 * length, 2 * length - 1))
        self.assertEqual(self.rest(net, [(5, 0), (length, 2)]), (length, length * (2 * length - 1)))
        # Twelve rings whose laps have no divisor in common: the round has more than sixty figures.
        laps = [prime * 10 ** 50 + 1 for prime in range(1, 13)]
        rounds = math.lcm(*laps)
        self.assertEqual(
            self.rest(tuple((lap, at) for at, lap in enumerate(laps)), [(0, at) for at in range(12)]), (0, rounds))
        self.assertGreater(rounds, 10 ** 500)

    def test_a_tuple_of_whole_numbers(self):
        for kindlings in ([], [(0, 0)], [(0, 3)]):
            told = rest_of(NET, kindlings)
            self.assertIsInstance(told, tuple)
            self.assertEqual([type(part) for part in told], [int, int])

    def test_refusals(self):
        self.refuses_in_order(rest_of, [
            ("net", NET, bad_nets(), NoNet), ("kindlings", [(0, 0)], bad_kindlings(NET), NoKindlings)])


class RoundOfLampsTest(LawTest):
    def round_of(self, net, kindlings):
        return self.both_ways(round_of_lamps, net=net, kindlings=kindlings)

    def test_nothing_for_ever(self):
        self.assertEqual(self.round_of(NET, []), 1)
        self.assertEqual(self.round_of(NET, [(0, 3)]), 1)

    def test_the_round_itself(self):
        self.assertEqual(self.round_of(NET, [(0, 0)]), 5)
        self.assertEqual(self.round_of(NET, [(0, 0), (0, 4)]), 45)
        self.assertEqual(self.round_of(((1, 1), (9, 0)), [(3, 0)]), 10)
        # Two flames at unlike gaps.
        self.assertEqual(self.round_of(((2, 1), (2, 2), (2, 0)), [(0, 0), (2, 0)]), 6)
        self.assertEqual(self.round_of(((2, 1), (2, 2), (3, 0)), [(0, 0), (3, 0)]), 7)

    def test_less_where_flames_stand_at_like_gaps(self):
        # With lamps of like lengths, and without.
        self.assertEqual(self.round_of(((2, 1), (2, 0)), [(0, 0), (2, 0)]), 2)
        self.assertEqual(self.round_of(((2, 1), (2, 2), (2, 3), (2, 0)), [(0, 0), (4, 0)]), 4)
        self.assertEqual(self.round_of(((1, 1), (3, 2), (2, 0)), [(0, 0), (3, 0)]), 3)
        self.assertEqual(self.round_of(((1, 1), (2, 2), (3, 3), (2, 0)), [(4, 0), (0, 0)]), 4)
        self.assertEqual(self.round_of(((3, 1), (3, 2), (3, 0)), [(0, 0), (0, 1), (0, 2)]), 3)

    def test_a_turn_by_two_gaps(self):
        # Gaps 2, 3, 2, 3 of ten beats: the lamps come again behind five.
        net = ((2, 1), (1, 2), (2, 3), (1, 4), (2, 5), (2, 0))
        kindlings = [(0, 0), (2, 0), (5, 0), (7, 0)]
        self.assertEqual(gaps(net, kindlings, 0), [2, 3, 2, 3])
        self.assertEqual(self.round_of(net, kindlings), 5)
        self.assertEqual(rest_of(net, kindlings)[1], 10)

    def test_several_rings(self):
        net = ((2, 1), (2, 0), (3, 2), (3, 4), (3, 3))
        self.assertEqual(self.round_of(net, [(0, 0), (2, 0), (0, 2)]), 6)
        self.assertEqual(self.round_of(net, [(0, 0), (0, 2)]), 12)
        self.assertEqual(self.round_of(net, [(0, 0), (2, 0), (0, 3), (3, 3)]), 6)
        self.assertEqual(self.round_of(net, [(0, 0), (2, 0), (0, 3)]), 6)

    def test_those_of_the_walk(self):
        for net, kindlings, first, again, _, pictures in CASES:
            lamps = [lamps_alone(picture) for picture in pictures]
            told = min(beats for beats in range(1, again + 1) if all(
                lamps[beat] == lamps[beat + beats] for beat in range(first, first + again)))
            self.assertEqual(self.round_of(net, kindlings), told)
            self.assertEqual(again % told, 0)

    def test_all_lengths_and_beats_many_times_as_great(self):
        for net, kindlings, _, _, _, _ in CASES:
            told = round_of_lamps(net, kindlings) * (FACTOR if goes_on(net, kindlings) else 1)
            self.assertEqual(round_of_lamps(*times(net, kindlings, FACTOR)), told)

    def test_all_beats_later(self):
        for net, kindlings, _, _, _, _ in CASES:
            for beats in (1, 10 ** 59):
                self.assertEqual(round_of_lamps(net, later(kindlings, beats)), round_of_lamps(net, kindlings))

    def test_sixty_figures(self):
        length = SIXTY_FIGURES
        net = ((length, 1), (length, 0))
        self.assertEqual(self.round_of(net, [(5, 0), (5, 1)]), length)
        self.assertEqual(self.round_of(net, [(5, 0), (4, 1)]), 2 * length)
        self.assertEqual(self.round_of(net, [(length, 0)]), 2 * length)

    def test_refusals(self):
        self.refuses_in_order(round_of_lamps, [
            ("net", NET, bad_nets(), NoNet), ("kindlings", [(0, 0)], bad_kindlings(NET), NoKindlings)])


class GapsTest(LawTest):
    def gaps(self, net, kindlings, lamp):
        return self.both_ways(gaps, net=net, kindlings=kindlings, lamp=lamp)

    def test_none_goes(self):
        self.assertEqual(self.gaps(NET, [], 0), [])
        self.assertEqual(self.gaps(NET, [(0, 4), (0, 3)], 1), [])
        self.assertEqual(self.gaps(NET, [(0, 0)], 4), [])
        self.assertEqual(self.gaps(((4, 0),), [], 0), [])

    def test_one_goes(self):
        for lamp in (0, 1):
            self.assertEqual(self.gaps(NET, [(4, 2)], lamp), [5])
            self.assertEqual(self.gaps(NET, [(0, 0), (4, 2), (7, 4)], lamp), [5])
        self.assertEqual(self.gaps(((4, 0),), [(9, 0)], 0), [4])

    def test_as_many_as_go(self):
        net = ((2, 1), (2, 2), (2, 0))
        self.assertEqual(self.gaps(net, [(0, 0), (2, 0), (4, 0)], 0), [2, 2, 2])
        self.assertEqual(self.gaps(net, [(0, 0), (2, 0), (4, 0), (6, 0), (1, 1)], 0), [2, 2, 2])
        self.assertEqual(self.gaps(((1, 1), (3, 0)), [(0, 0), (1, 0)], 0), [4])
        self.assertEqual(self.gaps(((1, 0),), [(0, 0), (0, 0)], 0), [1])

    def test_from_the_flame_of_the_least_number_that_goes_there(self):
        net = ((2, 1), (2, 2), (2, 3), (2, 4), (2, 0))
        self.assertEqual(self.gaps(net, [(0, 0), (2, 0), (5, 0)], 0), [2, 3, 5])
        self.assertEqual(self.gaps(net, [(2, 0), (5, 0), (0, 0)], 0), [3, 5, 2])
        self.assertEqual(self.gaps(net, [(5, 0), (0, 0), (2, 0)], 0), [5, 2, 3])
        self.assertEqual(self.gaps(net, [(5, 0), (2, 0), (0, 0)], 0), [5, 2, 3])
        # The flame 0 is lost, so the flame 1 is the first one that goes there.
        self.assertEqual(self.gaps(net, [(1, 0), (5, 0), (0, 0), (2, 0)], 0), [5, 2, 3])
        self.assertEqual(self.gaps(net, [(25, 0), (100, 0), (2, 0)], 0), [5, 2, 3])

    def test_each_lamp_of_the_ring_tells_the_same(self):
        net = ((3, 1), (1, 2), (3, 4), (5, 0), (4, 0))
        for lamp in (0, 1, 2, 4):
            self.assertEqual(self.gaps(net, [(0, 3), (0, 0)], lamp), [6, 5])

    def test_those_of_the_walk(self):
        many = 0
        for net, kindlings, first, _, rows, _ in CASES:
            for ring in rings(net):
                lap, longest = lap_of(net, ring[0])
                for lamp in ring:
                    lit = [(row[3], row[1]) for row in rows if row[0] == "lit" and row[2] == lamp and row[1] >= first]
                    told = self.gaps(net, kindlings, lamp)
                    if not lit:
                        self.assertEqual(told, [])
                        continue
                    start = min(lit)[1]
                    beats = [beat for _, beat in lit if start <= beat <= start + lap]
                    self.assertEqual(told, [two - one for one, two in zip(beats, beats[1:])])
                    self.assertEqual(sum(told), lap)
                    self.assertGreaterEqual(min(told), longest)
                    many += len(told) > 1
        self.assertGreater(many, 100)

    def test_great_numbers(self):
        for net, kindlings, _, _, _, _ in CASES:
            for ring in rings(net):
                told = [gap * FACTOR for gap in gaps(net, kindlings, ring[0])]
                self.assertEqual(gaps(*times(net, kindlings, FACTOR), ring[-1]), told)
                self.assertEqual(gaps(net, later(kindlings, FACTOR), ring[-1]), gaps(net, kindlings, ring[0]))

    def test_sixty_figures(self):
        length = SIXTY_FIGURES
        net = ((length, 1), (length, 2), (length, 0))
        self.assertEqual(self.gaps(net, [(length, 0), (0, 0)], 2), [2 * length, length])
        self.assertEqual(self.gaps(((1, 1), (length, 0)), [(length, 1), (0, 0)], 0), [length + 1])

    def test_a_new_list(self):
        told, again = gaps(NET, [(0, 0)], 0), gaps(NET, [(0, 0)], 0)
        self.assertIsInstance(told, list)
        told.clear()
        self.assertEqual(gaps(NET, [(0, 0)], 0), again)
        gaps(NET, [], 0).append(3)
        self.assertEqual(gaps(NET, [], 0), [])

    def test_no_ring_of_a_lamp_of_a_way_into_a_ring_and_of_a_way_that_ends(self):
        for lamp in (2, 3, 7):
            self.refuses_both_ways(NoRing, gaps, net=NET, kindlings=[(0, lamp)], lamp=lamp)
            self.refuses_both_ways(NoRing, gaps, net=NET, kindlings=[], lamp=lamp)
        for net in ((3, None),), ((3, 1), (3, 1)), ((3, 1), (3, None)):
            self.refuses_both_ways(NoRing, gaps, net=net, kindlings=[(0, 0)], lamp=0)
        for net, kindlings, _, _, _, _ in CASES:
            for lamp in range(len(net)):
                if lamp not in way_of(net, lamp)[1]:
                    self.refuses(NoRing, gaps, net, kindlings, lamp)

    def test_refusals(self):
        asked = [("net", NET, bad_nets(), NoNet), ("kindlings", [(0, 0)], bad_kindlings(NET), NoKindlings)]
        self.refuses_in_order(gaps, asked + [("lamp", 0, bad_numbers(len(NET)), NoLamp)])
        self.refuses_in_order(gaps, asked + [("lamp", 0, [2, 3, 7], NoRing)])


if __name__ == "__main__":
    unittest.main()
