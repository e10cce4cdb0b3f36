"""Point 19: where there is room for a flame more, and for how many."""

import random
import unittest

from emberlane.errors import NoBeat, NoKindlings, NoLamp, NoNet
from emberlane.fates import fates, losses
from emberlane.nets import lap_of, rings, way_of
from emberlane.rests import gaps, rest_of
from emberlane.rooms import first_room, more, rooms
from tests.helpers import (
    SIXTY_FIGURES, LawTest, bad_beats, bad_kindlings, bad_nets, bad_numbers, later, losses_of_walk, ring_cases,
    some_cases_in_any_order, times, walk)

# Ring 0, 1, 2 of 9 beats; 3 leads to 1, 4 to 3; 5 leads to 6, which ends; 7 is its own next.
NET = ((3, 1), (2, 2), (4, 0), (7, 1), (5, 3), (3, 6), (2, None), (6, 7))
KINDLINGS = [(2, 0)]

FACTOR = 10 ** 57


def first_free(net, kindlings):
    """The first beat that may be asked for."""
    return max([rest_of(net, kindlings)[0]] + [beat + 1 for beat, _ in kindlings])


def rooms_by_trying(net, kindlings, lamp, start, beats):
    """For so many beats from start on whether one kindling more, by the walk, goes for ever and nobody is lost by it."""
    # Two laps behind its coming onto the ring it has met all that it ever meets.
    horizon = start + beats + sum(length for length, _ in net) * 3
    was = losses_of_walk(walk(net, kindlings, horizon)[0])
    told = []
    for beat in range(start, start + beats):
        rows, pictures = walk(net, kindlings + [(beat, lamp)], horizon)
        goes = any(part is not None and part[0] == len(kindlings) for part in pictures[-1])
        told.append(goes and losses_of_walk(rows) == was)
    return told


def tried_cases():
    """Drawn cases, for each lamp with the beats of room that are found by trying."""
    told = []
    drawn = ring_cases(81, 150, most_length=4) + ring_cases(82, 60, 3, most_rings=1) + some_cases_in_any_order(83, 60)
    for net, kindlings in drawn:
        start = first_free(net, kindlings)
        for lamp in range(len(net)):
            lap = lap_of(net, lamp)
            beats = 4 if lap is None else 2 * lap[0]
            told.append((net, kindlings, lamp, start, rooms_by_trying(net, kindlings, lamp, start, beats)))
    return told


CASES = tried_cases()


class CasesTest(unittest.TestCase):
    """The drawn cases are worth the while."""

    def test_there_is_something_of_each_kind(self):
        kinds = dict.fromkeys(("its way ends", "empty", "full", "some room", "a way in", "several flames"), 0)
        for net, kindlings, lamp, _, found in CASES:
            ahead, ring = way_of(net, lamp)
            if not ring:
                kinds["its way ends"] += 1
                continue
            kinds["empty"] += gaps(net, kindlings, ring[0]) == []
            kinds["full"] += not any(found)
            kinds["some room"] += any(found) and not all(found)
            kinds["a way in"] += bool(ahead) and any(found)
            kinds["several flames"] += any(found) and len(gaps(net, kindlings, ring[0])) > 1
        for kind, many in kinds.items():
            self.assertGreater(many, 30, kind)


class FirstRoomTest(LawTest):
    def first(self, net, kindlings, lamp, beat):
        return self.both_ways(first_room, net=net, kindlings=kindlings, lamp=lamp, beat=beat)

    def test_an_empty_ring_has_room_at_once(self):
        for beat in (0, 1, 5, SIXTY_FIGURES):
            for lamp in (0, 1, 2, 3, 4, 7):
                self.assertEqual(self.first(NET, [], lamp, beat), beat)
        self.assertEqual(self.first(NET, [(3, 7)], 4, 4), 4)
        self.assertEqual(self.first(NET, [(3, 6)], 4, 5), 5)

    def test_a_lamp_whose_way_ends(self):
        for lamp in (5, 6):
            self.assertIsNone(self.first(NET, [], lamp, 0))
            self.assertIsNone(self.first(NET, KINDLINGS, lamp, 3))

    def test_a_lamp_of_the_ring(self):
        # Flame 0 lights lamp 0 at 2, 11, 20; four beats off on either side there is room: at 6 and 7.
        self.assertEqual([self.first(NET, KINDLINGS, 0, beat) for beat in range(3, 18)], [6] * 4 + [7] + [15] * 8 + [
            16, 24])
        # It lights lamp 1 at 5, 14, lamp 2 at 7, 16.
        self.assertEqual([self.first(NET, KINDLINGS, 1, beat) for beat in range(3, 12)], [9] * 7 + [10] + [18])
        self.assertEqual([self.first(NET, KINDLINGS, 2, beat) for beat in range(3, 14)], [3] + [11] * 8 + [12] + [20])

    def test_a_lamp_of_a_way_into_the_ring(self):
        # From lamp 3 it comes to lamp 1 seven beats behind, from lamp 4 twelve.
        self.assertEqual([self.first(NET, KINDLINGS, 3, beat) for beat in range(3, 13)], [3] + [11] * 8 + [12])
        self.assertEqual([self.first(NET, KINDLINGS, 4, beat) for beat in range(3, 9)], [6] * 4 + [7, 15])

    def test_a_full_ring(self):
        self.assertIsNone(self.first(NET, [(0, 0), (4, 0)], 0, 5))
        self.assertIsNone(self.first(NET, [(0, 0), (5, 0)], 4, SIXTY_FIGURES))
        self.assertIsNone(self.first(NET, [(0, 7)], 7, 1))

    def test_from_the_first_beat_that_may_be_asked_for(self):
        # Behind the last kindling, though first is sooner: the flame 1 is lost as it is kindled.
        kindlings = [(2, 0), (30, 0)]
        self.assertEqual(rest_of(NET, kindlings), (2, 9))
        self.assertEqual(self.first(NET, kindlings, 0, 31), 33)
        for beat in (0, 2, 29, 30):
            self.refuses_both_ways(NoBeat, first_room, net=NET, kindlings=kindlings, lamp=0, beat=beat)
        # From first on, though the last kindling is sooner.
        kindlings = [(2, 0), (4, 5)]
        self.assertEqual(rest_of(NET, kindlings), (9, 9))
        self.assertEqual(self.first(NET, kindlings, 0, 9), 15)
        for beat in (0, 4, 5, 8):
            self.refuses_both_ways(NoBeat, first_room, net=NET, kindlings=kindlings, lamp=0, beat=beat)
        self.assertEqual(self.first(NET, [(0, 0)], 0, 1), 4)
        self.refuses_both_ways(NoBeat, first_room, net=NET, kindlings=[(0, 0)], lamp=0, beat=0)

    def test_the_beat_is_refused_where_there_is_no_room_at_all_too(self):
        for lamp in (0, 3, 5, 6, 7):
            self.refuses_both_ways(NoBeat, first_room, net=NET, kindlings=[(3, 7)], lamp=lamp, beat=3)
            self.refuses_both_ways(NoBeat, first_room, net=NET, kindlings=[(3, 7)], lamp=lamp, beat=2)
            self.refuses_both_ways(NoBeat, first_room, net=NET, kindlings=[(3, 7), (0, 5)], lamp=lamp, beat=True)

    def test_the_first_beat_that_may_be_asked_for_and_the_one_ahead_of_it(self):
        for net, kindlings, lamp, start, _ in CASES:
            first_room(net, kindlings, lamp, start)
            if start:
                self.refuses(NoBeat, first_room, net, kindlings, lamp, start - 1)

    def test_those_that_are_found_by_trying(self):
        for net, kindlings, lamp, start, found in CASES:
            for at in range((len(found) + 1) // 2):
                told = start + found.index(True, at) if True in found[at:] else None
                self.assertEqual(self.first(net, kindlings, lamp, start + at), told)

    def test_far_beats(self):
        for net, kindlings, lamp, start, _ in CASES:
            lap = lap_of(net, lamp)
            if lap is None:
                continue
            far = 10 ** 57 * lap[0]
            for at in range(0, lap[0], 2):
                told = first_room(net, kindlings, lamp, start + at)
                behind = first_room(net, kindlings, lamp, start + at + far)
                self.assertEqual(behind, None if told is None else told + far)

    def test_all_beats_later(self):
        for net, kindlings, lamp, start, _ in CASES:
            if not kindlings:
                continue
            for at in (0, 1, 5):
                told = first_room(net, kindlings, lamp, start + at)
                behind = first_room(net, later(kindlings, FACTOR), lamp, start + at + FACTOR)
                self.assertEqual(behind, None if told is None else told + FACTOR)

    def test_with_great_numbers_the_room_is_room_and_the_beat_ahead_is_none(self):
        dice = random.Random(84)
        many = 0
        for net, kindlings, lamp, _, _ in CASES:
            net, kindlings = times(net, kindlings, FACTOR)
            beat = first_free(net, kindlings) + dice.randrange(SIXTY_FIGURES)
            told = first_room(net, kindlings, lamp, beat)
            if told is None:
                continue
            was = fates(net, kindlings)
            self.assertEqual(fates(net, kindlings + [(told, lamp)])[:-1], was)
            self.assertEqual(fates(net, kindlings + [(told, lamp)])[-1][0], "goes")
            if told > beat:
                for ahead in (told - 1, beat):
                    self.assertNotEqual(losses(net, kindlings + [(ahead, lamp)]), losses(net, kindlings))
                many += 1
        self.assertGreater(many, 30)

    def test_sixty_figures(self):
        length = SIXTY_FIGURES
        net = ((length, 1), (length, 2), (length, 3), (length - 3, 0))
        lap = 4 * length - 3
        self.assertEqual(self.first(net, [(length, 0)], 0, length + 1), 2 * length)
        self.assertEqual(self.first(net, [(length, 0)], 0, lap), lap)
        self.assertEqual(self.first(net, [(length, 0)], 0, lap + 1), lap + 2 * length)
        self.assertEqual(self.first(net, [(0, 0), (length, 0)], 0, 2 * length - 1), 2 * length)
        # Gaps of twice the length and of less: just one beat of room in a lap.
        kindlings = [(0, 0), (2 * length - 3, 0)]
        self.assertEqual(self.first(net, kindlings, 0, 2 * length), 3 * length - 3)
        self.assertEqual(self.first(net, kindlings, 0, 3 * length - 3), 3 * length - 3)
        self.assertEqual(self.first(net, kindlings, 0, 3 * length - 2), 3 * length - 3 + lap)
        self.assertIsNone(self.first(net, [(0, 0), (2 * length - 1, 0)], 0, 2 * length))

    def test_refusals(self):
        self.refuses_in_order(first_room, [
            ("net", NET, bad_nets(), NoNet), ("kindlings", KINDLINGS, bad_kindlings(NET), NoKindlings),
            ("lamp", 0, bad_numbers(len(NET)), NoLamp), ("beat", 3, bad_beats() + [0, 1, 2], NoBeat)])


class RoomsTest(LawTest):
    def rooms(self, net, kindlings, lamp):
        return self.both_ways(rooms, net=net, kindlings=kindlings, lamp=lamp)

    def test_a_lamp_whose_way_ends(self):
        for lamp in (5, 6):
            self.assertEqual(self.rooms(NET, [], lamp), 0)
            self.assertEqual(self.rooms(NET, KINDLINGS, lamp), 0)

    def test_an_empty_ring(self):
        for lamp in range(5):
            self.assertEqual(self.rooms(NET, [], lamp), 9)
            self.assertEqual(self.rooms(NET, [(0, 7), (0, 5)], lamp), 9)
        self.assertEqual(self.rooms(NET, [(0, 0)], 7), 6)

    def test_some_room(self):
        for lamp in range(5):
            self.assertEqual(self.rooms(NET, KINDLINGS, lamp), 2)
        # Just one beat, and none any more.
        self.assertEqual(self.rooms(((3, 1), (3, 0)), [(0, 0)], 0), 1)
        self.assertEqual(self.rooms(((3, 1), (2, 0)), [(0, 0)], 0), 0)
        self.assertEqual(self.rooms(((3, 1), (4, 0)), [(0, 0)], 0), 0)
        self.assertEqual(self.rooms(((2, 1), (2, 2), (2, 3), (2, 0)), [(0, 0), (4, 0)], 0), 2)
        self.assertEqual(self.rooms(((2, 1), (2, 2), (2, 3), (2, 0)), [(0, 0), (3, 0)], 0), 2)
        self.assertEqual(self.rooms(((2, 1), (2, 2), (2, 3), (2, 0)), [(0, 0), (2, 0)], 0), 3)

    def test_a_full_ring(self):
        self.assertEqual(self.rooms(NET, [(0, 0), (4, 0)], 3), 0)
        self.assertEqual(self.rooms(NET, [(0, 7)], 7), 0)

    def test_those_that_are_found_by_trying(self):
        for net, kindlings, lamp, _, found in CASES:
            lap = lap_of(net, lamp)
            told = self.rooms(net, kindlings, lamp)
            if lap is None:
                self.assertEqual(told, 0)
            else:
                self.assertEqual([found[:lap[0]].count(True), found[lap[0]:].count(True)], [told, told])

    def test_sixty_figures(self):
        length = SIXTY_FIGURES
        net = ((length, 1), (length, 2), (length, 3), (length - 3, 0), (7, 1))
        lap = 4 * length - 3
        for lamp in range(5):
            self.assertEqual(self.rooms(net, [], lamp), lap)
            self.assertEqual(self.rooms(net, [(5, 0)], lamp), lap - 2 * length + 1)
            self.assertEqual(self.rooms(net, [(5, 0), (5 + length, 0)], lamp), length - 2)
            self.assertEqual(self.rooms(net, [(5, 0), (5 + 2 * length, 0)], lamp), 1)
            self.assertEqual(self.rooms(net, [(5, 0), (4 + 2 * length, 0)], lamp), 0)
        self.assertEqual(self.rooms(((1, 1), (length, 0)), [(5, 0)], 0), 0)
        self.assertEqual(self.rooms(((length, 1), (length, 0)), [(5, 0)], 0), 1)

    def test_with_great_numbers(self):
        for net, kindlings, lamp, _, _ in CASES:
            greater = times(net, kindlings, FACTOR)
            _, ring = way_of(net, lamp)
            if not ring:
                self.assertEqual(rooms(*greater, lamp), 0)
                continue
            lap, longest = lap_of(net, lamp)
            between = gaps(net, kindlings, ring[0])
            told = sum((gap - 2 * longest) * FACTOR + 1 for gap in between if gap >= 2 * longest)
            self.assertEqual(rooms(*greater, lamp), told if between else lap * FACTOR)

    def test_refusals(self):
        self.refuses_in_order(rooms, [
            ("net", NET, bad_nets(), NoNet), ("kindlings", KINDLINGS, bad_kindlings(NET), NoKindlings),
            ("lamp", 0, bad_numbers(len(NET)), NoLamp)])


class MoreTest(LawTest):
    def more(self, net, kindlings, lamp):
        return self.both_ways(more, net=net, kindlings=kindlings, lamp=lamp)

    def test_a_lamp_whose_way_ends(self):
        for lamp in (5, 6):
            self.assertEqual(self.more(NET, [], lamp), 0)
            self.assertEqual(self.more(NET, KINDLINGS, lamp), 0)

    def test_an_empty_ring(self):
        for lamp in range(5):
            self.assertEqual(self.more(NET, [], lamp), 2)
        self.assertEqual(self.more(NET, KINDLINGS, 7), 1)
        self.assertEqual(self.more(tuple((1, (at + 1) % 12) for at in range(12)), [], 0), 12)
        self.assertEqual(self.more(((2, 1), (3, 2), (2, 3), (1, 0)), [], 2), 2)
        self.assertEqual(self.more(((2, 1), (3, 2), (2, 3), (2, 0)), [], 2), 3)

    def test_more_and_more_flames(self):
        net = tuple((2, (at + 1) % 6) for at in range(6))
        kindlings = []
        for flames in range(7):
            self.assertEqual(self.more(net, kindlings, 3), 6 - flames)
            kindlings.append((2 * flames, 0))
        self.assertEqual(self.more(net, [(0, 0), (3, 0)], 0), 3)
        self.assertEqual(self.more(net, [(0, 0), (3, 0), (6, 0)], 0), 2)
        self.assertEqual(self.more(net, [(0, 0), (3, 0), (6, 0), (9, 0)], 0), 0)

    def test_one_behind_the_other_by_trying(self):
        """Let in where there is room, at any beat of a lap, the most that can be had."""
        tried = {}

        def most(net, kindlings, lamp, taken):
            """The most flames more: any of the beats of room may be the first one that is taken, in any lap."""
            start, (lap, _) = first_free(net, kindlings), lap_of(net, lamp)
            best = 0
            for beat in range(start, start + lap):
                if first_room(net, kindlings, lamp, beat) != beat:
                    continue
                key = taken + (beat % lap,)
                if tuple(sorted(key)) not in tried:
                    tried[tuple(sorted(key))] = 1 + most(net, kindlings + [(beat, lamp)], lamp, key)
                best = max(best, tried[tuple(sorted(key))])
            return best

        many = 0
        for net, kindlings, lamp, _, _ in CASES[::3]:
            lap = lap_of(net, lamp)
            if lap is None:
                self.assertEqual(self.more(net, kindlings, lamp), 0)
            elif lap[0] <= 9:
                tried.clear()
                told = self.more(net, kindlings, lamp)
                self.assertEqual(told, most(net, kindlings, lamp, ()))
                many += told > 1
        self.assertGreater(many, 20)

    def test_each_one_the_longest_length_behind_the_last_one_with_great_numbers(self):
        for net, _, lamp, _, _ in CASES:
            if lap_of(net, lamp) is None:
                continue
            net, _ = times(net, [], FACTOR)
            lap, longest = lap_of(net, lamp)
            kindlings = [(7, lamp)]
            for left in range(lap // longest - 1, 0, -1):
                self.assertEqual(more(net, kindlings, lamp), left)
                # Whole laps later where the last one has not come onto the ring as yet.
                beat = kindlings[-1][0] + longest
                while beat < first_free(net, kindlings):
                    beat += lap
                self.assertEqual(first_room(net, kindlings, lamp, beat), beat)
                kindlings.append((beat, lamp))
                self.assertEqual(losses(net, kindlings), [])
            self.assertEqual(more(net, kindlings, lamp), 0)
            self.assertEqual(len(gaps(net, kindlings, way_of(net, lamp)[1][0])), lap // longest)

    def test_as_many_as_the_longest_goes_into_the_lap_and_no_more(self):
        for net, kindlings, lamp, _, _ in CASES:
            _, ring = way_of(net, lamp)
            if ring:
                lap, longest = lap_of(net, lamp)
                going = len(gaps(net, kindlings, ring[0]))
                self.assertLessEqual(going + self.more(net, kindlings, lamp), lap // longest)
                self.assertEqual(self.more(net, kindlings, lamp) > 0, self.both_ways(
                    rooms, net=net, kindlings=kindlings, lamp=lamp) > 0)

    def test_sixty_figures(self):
        length = SIXTY_FIGURES
        net = ((length, 1), (length, 2), (length, 3), (length - 3, 0), (7, 1))
        for lamp in range(5):
            self.assertEqual(self.more(net, [], lamp), 3)
            self.assertEqual(self.more(net, [(5, 0)], lamp), 2)
            self.assertEqual(self.more(net, [(5, 0), (5 + length, 0)], lamp), 1)
            self.assertEqual(self.more(net, [(5, 0), (4 + 2 * length, 0)], lamp), 0)
        self.assertEqual(self.more(((1, 1), (length, 0)), [], 0), 1)
        # One long lamp less than a lap, and short ones: just one flame goes, however great the lap.
        self.assertEqual(self.more(((length, 1), (length - 1, 0)), [], 0), 1)

    def test_great_numbers(self):
        for net, kindlings, lamp, _, _ in CASES:
            self.assertEqual(more(*times(net, kindlings, FACTOR), lamp), more(net, kindlings, lamp))
            self.assertEqual(more(net, later(kindlings, FACTOR), lamp), more(net, kindlings, lamp))

    def test_each_ring_by_itself(self):
        for net, kindlings, _, _, _ in CASES[::4]:
            for ring in rings(net):
                self.assertEqual(len({more(net, kindlings, lamp) for lamp in ring}), 1)
                self.assertEqual(len({rooms(net, kindlings, lamp) for lamp in ring}), 1)

    def test_refusals(self):
        self.refuses_in_order(more, [
            ("net", NET, bad_nets(), NoNet), ("kindlings", KINDLINGS, bad_kindlings(NET), NoKindlings),
            ("lamp", 0, bad_numbers(len(NET)), NoLamp)])


if __name__ == "__main__":
    unittest.main()
