"""Points 9 and 10: a flame that is the only one, and the gap of two."""

import random
import unittest

from emberlane.alone import gap_of, lights_alone, place_alone
from emberlane.errors import NoBeat, NoKindlings, NoLamp, NoNet
from emberlane.nets import way_of
from tests.helpers import (
    SIXTY_FIGURES, LawTest, bad_beats, bad_kindling, bad_nets, bad_numbers, some_net, walk, walk_of_embers)

# 0, 1 lead to the ring 2, 4, 3 of 15 beats; 5 leads to 6, which ends; 7 is its own next; 8 leads to 4.
MIXED = ((2, 1), (3, 2), (4, 4), (6, 2), (5, 3), (7, 6), (8, None), (9, 7), (1, 4))
HORIZON = 90


def some_single(seed, many):
    """So many nets with one kindling."""
    dice = random.Random(seed)
    cases = []
    for _ in range(many):
        net = some_net(dice, 7)
        cases.append((net, (dice.randint(0, 9), dice.randrange(len(net)))))
    return cases


class PlaceTest(LawTest):
    def place(self, net, kindling, beat):
        return self.both_ways(place_alone, net=net, kindling=kindling, beat=beat)

    def places(self, net, kindling, beats):
        return [self.place(net, kindling, beat) for beat in beats]

    def test_the_beat_of_the_kindling_and_the_beats_ahead_of_it(self):
        self.assertEqual(self.places(((3, None),), (4, 0), range(4)), [None] * 4)
        self.assertEqual(self.place(((3, None),), (4, 0), 4), (0, 0))
        self.assertEqual(self.place(((3, None),), (0, 0), 0), (0, 0))
        self.assertEqual(self.place(((3, 0),), (4, 0), 3), None)
        self.assertEqual(self.place(((3, 0),), (4, 0), 4), (0, 0))

    def test_beats_ahead_of_the_kindling_on_a_ring_are_none_even_whole_laps_ahead(self):
        for beat in range(60):
            self.assertIsNone(self.place(((3, 1), (2, 0)), (60, 0), beat))

    def test_the_beat_at_which_it_ends_and_the_one_ahead_of_that(self):
        self.assertEqual(self.place(((3, None),), (4, 0), 6), (0, 2))
        self.assertIsNone(self.place(((3, None),), (4, 0), 7))
        self.assertIsNone(self.place(((3, None),), (4, 0), 8))
        self.assertEqual(self.place(MIXED, (10, 5), 24), (6, 7))
        self.assertIsNone(self.place(MIXED, (10, 5), 25))
        self.assertIsNone(self.place(MIXED, (10, 5), SIXTY_FIGURES))

    def test_the_first_and_the_last_beat_of_a_lamp(self):
        self.assertEqual(self.places(MIXED, (1, 0), [1, 2, 3, 5, 6, 9, 10, 14, 15, 20, 21]), [
            (0, 0), (0, 1), (1, 0), (1, 2), (2, 0), (2, 3), (4, 0), (4, 4), (3, 0), (3, 5), (2, 0)])

    def test_a_way_ahead_of_a_ring_many_laps_on(self):
        for laps in (0, 1, 2, 7, 400, 10 ** 12, 10 ** 58):
            far = laps * 15
            self.assertEqual(self.places(MIXED, (1, 0), [6 + far, 9 + far, 10 + far, 14 + far, 15 + far, 20 + far]), [
                (2, 0), (2, 3), (4, 0), (4, 4), (3, 0), (3, 5)])

    def test_a_lamp_that_is_its_own_next(self):
        self.assertEqual(self.places(((3, 0),), (1, 0), range(1, 9)), [
            (0, 0), (0, 1), (0, 2), (0, 0), (0, 1), (0, 2), (0, 0), (0, 1)])
        self.assertEqual(self.places(((1, 0),), (2, 0), range(5)), [None, None, (0, 0), (0, 0), (0, 0)])

    def test_lengths_and_beats_of_sixty_figures(self):
        length = SIXTY_FIGURES
        net = ((length, 1), (length - 1, 0), (length, None))
        self.assertEqual(self.place(net, (0, 0), length - 1), (0, length - 1))
        self.assertEqual(self.place(net, (0, 0), length), (1, 0))
        self.assertEqual(self.place(net, (5, 0), length), (0, length - 5))
        self.assertEqual(self.place(net, (length, 2), length), (2, 0))
        self.assertIsNone(self.place(net, (length, 2), length - 1))
        self.assertEqual(self.place(((1, 0),), (0, 0), length), (0, 0))
        self.assertEqual(self.place(((7, 1), (3, 0)), (0, 0), length), (1, 2))
        self.assertEqual(self.place(((7, 1), (3, 0)), (length - 1, 1), length), (1, 1))

    def test_each_beat_of_the_walk(self):
        for net, kindling in some_single(21, 200):
            for pictures in (walk(net, [kindling], HORIZON)[1], walk_of_embers(net, [kindling], HORIZON)[1]):
                for beat, picture in enumerate(pictures):
                    found = [(lamp, part[1]) for lamp, part in enumerate(picture) if part]
                    self.assertEqual(self.place(net, kindling, beat), found[0] if found else None)

    def test_a_tuple(self):
        self.assertIsInstance(place_alone(MIXED, (0, 0), 3), tuple)

    def test_refusals(self):
        self.refuses_in_order(place_alone, [
            ("net", MIXED, bad_nets(), NoNet), ("kindling", (0, 0), bad_kindling(MIXED), NoKindlings),
            ("beat", 0, bad_beats(), NoBeat)])


class LightsTest(LawTest):
    def lights(self, net, kindling, lamp):
        return self.both_ways(lights_alone, net=net, kindling=kindling, lamp=lamp)

    def test_lamps_of_the_way_ahead_have_no_lap(self):
        self.assertEqual(self.lights(MIXED, (1, 0), 0), (1, None))
        self.assertEqual(self.lights(MIXED, (1, 0), 1), (3, None))
        self.assertEqual(self.lights(MIXED, (4, 8), 8), (4, None))
        self.assertEqual(self.lights(MIXED, (0, 5), 5), (0, None))
        self.assertEqual(self.lights(MIXED, (0, 5), 6), (7, None))

    def test_lamps_of_the_ring_have_its_lap(self):
        self.assertEqual(self.lights(MIXED, (1, 0), 2), (6, 15))
        self.assertEqual(self.lights(MIXED, (1, 0), 4), (10, 15))
        self.assertEqual(self.lights(MIXED, (1, 0), 3), (15, 15))
        self.assertEqual(self.lights(MIXED, (4, 8), 4), (5, 15))
        self.assertEqual(self.lights(MIXED, (4, 8), 2), (16, 15))
        self.assertEqual(self.lights(MIXED, (0, 3), 3), (0, 15))

    def test_a_lamp_that_is_its_own_next(self):
        self.assertEqual(self.lights(MIXED, (2, 7), 7), (2, 9))
        self.assertEqual(self.lights(((1, 0),), (0, 0), 0), (0, 1))

    def test_lamps_that_the_flame_never_lights(self):
        for kindling, lamps in (((1, 0), (5, 6, 7, 8)), ((4, 8), (0, 1, 5, 6, 7)), ((0, 6), (0, 5, 7)), ((0, 7), (8,))):
            for lamp in lamps:
                self.assertIsNone(self.lights(MIXED, kindling, lamp))

    def test_sixty_figures(self):
        length = SIXTY_FIGURES
        net = ((length, 1), (length, 2), (length - 1, 1), (1, None))
        self.assertEqual(self.lights(net, (length, 0), 0), (length, None))
        self.assertEqual(self.lights(net, (length, 0), 1), (2 * length, 2 * length - 1))
        self.assertEqual(self.lights(net, (length, 0), 2), (3 * length, 2 * length - 1))
        self.assertIsNone(self.lights(net, (length, 0), 3))

    def test_the_lightings_of_the_walk(self):
        for net, kindling in some_single(22, 200):
            rows = walk(net, [kindling], HORIZON)[0]
            for lamp in range(len(net)):
                beats = [row[1] for row in rows if row[0] == "lit" and row[2] == lamp]
                told = self.lights(net, kindling, lamp)
                if not beats:
                    self.assertIsNone(told)
                    continue
                self.assertEqual(told[0], beats[0])
                if told[1] is None:
                    self.assertEqual(len(beats), 1)
                else:
                    self.assertEqual(beats, list(range(beats[0], HORIZON, told[1])))

    def test_a_tuple(self):
        self.assertIsInstance(lights_alone(MIXED, (0, 0), 3), tuple)

    def test_refusals(self):
        self.refuses_in_order(lights_alone, [
            ("net", MIXED, bad_nets(), NoNet), ("kindling", (0, 0), bad_kindling(MIXED), NoKindlings),
            ("lamp", 0, bad_numbers(len(MIXED)), NoLamp)])


class GapTest(LawTest):
    def gap(self, net, one, other):
        return self.both_ways(gap_of, net=net, one=one, other=other)

    def test_ways_without_a_lamp_in_common(self):
        self.assertIsNone(self.gap(MIXED, (0, 0), (0, 5)))
        self.assertIsNone(self.gap(MIXED, (3, 5), (0, 2)))
        self.assertIsNone(self.gap(MIXED, (3, 7), (3, 8)))
        self.assertIsNone(self.gap(((1, None), (1, None)), (0, 0), (0, 1)))

    def test_the_same_lamp(self):
        self.assertEqual(self.gap(MIXED, (4, 0), (9, 0)), (0, 5))
        self.assertEqual(self.gap(MIXED, (4, 6), (4, 6)), (6, 0))
        self.assertEqual(self.gap(MIXED, (4, 2), (50, 2)), (2, 46))
        self.assertEqual(self.gap(MIXED, (4, 7), (6, 7)), (7, 2))

    def test_below_zero(self):
        self.assertEqual(self.gap(MIXED, (9, 0), (4, 0)), (0, -5))
        self.assertEqual(self.gap(MIXED, (SIXTY_FIGURES, 7), (0, 7)), (7, -SIXTY_FIGURES))
        self.assertEqual(self.gap(MIXED, (0, 5), (2, 6)), (6, -5))

    def test_ways_that_come_together_ahead_of_a_ring(self):
        self.assertEqual(self.gap(MIXED, (0, 0), (5, 1)), (1, 3))
        self.assertEqual(self.gap(MIXED, (5, 1), (0, 0)), (1, -3))
        net = ((2, 2), (3, 2), (4, 3), (5, 4), (6, 3))
        self.assertEqual(self.gap(net, (0, 0), (0, 1)), (2, 1))
        self.assertEqual(self.gap(net, (10, 1), (0, 0)), (2, -11))

    def test_ways_that_end(self):
        net = ((2, 2), (3, 2), (4, 3), (5, None))
        self.assertEqual(self.gap(net, (0, 0), (0, 1)), (2, 1))
        self.assertEqual(self.gap(net, (0, 3), (0, 1)), (3, 7))

    def test_ways_that_come_together_on_a_ring(self):
        net = ((2, 2), (3, 2), (4, 3), (5, 2))
        self.assertEqual(self.gap(net, (0, 0), (0, 1)), (2, 1))
        self.assertEqual(self.gap(net, (7, 0), (0, 1)), (2, -6))

    def test_ways_that_come_onto_a_ring_at_unlike_lamps(self):
        # The first one's way tells the lamp: 2 for 1, 4 for 8.
        self.assertEqual(self.gap(MIXED, (0, 1), (0, 8)), (2, 9))
        self.assertEqual(self.gap(MIXED, (0, 8), (0, 1)), (4, 6))
        # Both gaps together are a lap: at lamp 2 the one lit it a lap sooner.
        self.assertEqual(self.gap(MIXED, (0, 2), (0, 3)), (2, 6))
        self.assertEqual(self.gap(MIXED, (0, 3), (0, 2)), (3, 9))

    def test_the_first_lamp_in_common_by_the_lightings_alone(self):
        dice = random.Random(23)
        for net, one in some_single(24, 400):
            other = (dice.randint(0, 30), dice.randrange(len(net)))
            common = [lamp for lamp in sum(way_of(net, one[1]), ()) if lamp in sum(way_of(net, other[1]), ())]
            told = self.gap(net, one, other)
            if not common:
                self.assertIsNone(told)
                continue
            firsts = [lights_alone(net, kindling, common[0])[0] for kindling in (one, other)]
            self.assertEqual(told, (common[0], firsts[1] - firsts[0]))

    def test_the_gap_is_the_same_at_each_lamp_behind_but_for_whole_laps(self):
        dice = random.Random(25)
        for net, one in some_single(26, 400):
            other = (dice.randint(0, 30), dice.randrange(len(net)))
            told = self.gap(net, one, other)
            for lamp in range(len(net)):
                lights = [lights_alone(net, kindling, lamp) for kindling in (one, other)]
                if None in lights:
                    continue
                (first, lap), (other_first, other_lap) = lights
                self.assertEqual(lap, other_lap)
                difference = other_first - first - told[1]
                self.assertEqual(difference if lap is None else difference % lap, 0)

    def test_sixty_figures(self):
        length = SIXTY_FIGURES
        net = ((length, 1), (length - 1, 2), (length - 2, 1))
        self.assertEqual(self.gap(net, (0, 0), (length, 2)), (1, length - 2))
        self.assertEqual(self.gap(net, (length, 2), (0, 0)), (2, length - 1))

    def test_a_tuple(self):
        self.assertIsInstance(gap_of(MIXED, (0, 0), (1, 0)), tuple)

    def test_refusals(self):
        self.refuses_in_order(gap_of, [
            ("net", MIXED, bad_nets(), NoNet), ("one", (0, 0), bad_kindling(MIXED), NoKindlings),
            ("other", (0, 0), bad_kindling(MIXED), NoKindlings)])


if __name__ == "__main__":
    unittest.main()
