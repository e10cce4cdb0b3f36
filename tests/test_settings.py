"""Point 20: settings, counted and told by their numbers."""

import itertools
import math
import random
import unittest

from emberlane.errors import NoLamp, NoNet, NoNumber, NoRing
from emberlane.fates import fates, losses
from emberlane.nets import lap_of
from emberlane.rests import gaps
from emberlane.rooms import more, setting, settings
from tests.helpers import (
    SIXTY_FIGURES, LawTest, bad_nets, bad_numbers, later, losses_of_walk, strange_things, walk, walk_of_embers)

# Ring 0, 1, 2 of 9 beats; 3 leads to 1; 4 ends; 5 is its own next.
NET = ((3, 1), (2, 2), (4, 0), (7, 1), (2, None), (6, 5))

# Rings of one to five lamps, with lamps of like lengths and without, some that flames can fill, some that they can't.
SMALL_RINGS = [
    [1], [2], [5], [1, 1], [1, 2], [3, 3], [3, 4], [1, 8], [1, 1, 1], [2, 2, 2], [2, 3, 1], [2, 1, 2, 1], [2, 2, 2, 2],
    [3, 1, 3, 2], [1, 1, 1, 1, 1], [2, 1, 2, 1, 2], [1, 1, 2, 1, 3]]

BAD_FLAMES = strange_things() + [None, 0, -1, -SIXTY_FIGURES]


def ring_net(lengths):
    """The net of one ring with these lengths."""
    return tuple((length, (at + 1) % len(lengths)) for at, length in enumerate(lengths))


def settings_by_walk(net, lamp, flames):
    """All settings of so many flames, in their order, by trying all tuples."""
    lap = lap_of(net, lamp)[0]
    told = []
    for beats in itertools.combinations(range(lap), flames):
        # Two laps behind the last kindling all have met.
        if not losses_of_walk(walk(net, [(beat, lamp) for beat in beats], 3 * lap + 1)[0]):
            told.append(beats)
    return told


def is_setting(net, lamp, beats):
    """Whether these beats are a setting, by the losses and by their form."""
    lap = lap_of(net, lamp)[0]
    rising = all(one < two for one, two in zip(beats, beats[1:])) and 0 <= beats[0] and beats[-1] < lap
    return rising and losses(net, [(beat, lamp) for beat in beats]) == []


ALL = {}
for lengths in SMALL_RINGS:
    ring = ring_net(lengths)
    for number in (0, len(lengths) - 1):
        for count in range(1, sum(lengths) // max(lengths) + 2):
            ALL[ring, number, count] = settings_by_walk(ring, number, count)


class CasesTest(unittest.TestCase):
    """The small rings are worth the while."""

    def test_the_walks_tell_the_same_by_embers(self):
        for (net, lamp, flames), told in ALL.items():
            if len(net) + flames <= 12:
                for beats in told[:3]:
                    rows, _ = walk_of_embers(net, [(beat, lamp) for beat in beats], 40)
                    self.assertEqual(losses_of_walk(rows), [])

    def test_there_are_many_settings(self):
        self.assertGreater(sum(len(told) for told in ALL.values()), 300)
        self.assertGreater(sum(len(told) for (_, _, flames), told in ALL.items() if flames > 2), 50)


class SettingsTest(LawTest):
    def settings(self, net, lamp, flames):
        return self.both_ways(settings, net=net, lamp=lamp, flames=flames)

    def test_of_one_flame_there_is_one_for_each_beat_of_the_lap(self):
        for lamp in range(3):
            self.assertEqual(self.settings(NET, lamp, 1), 9)
        self.assertEqual(self.settings(NET, 5, 1), 6)
        self.assertEqual(self.settings(((1, 0),), 0, 1), 1)

    def test_of_as_many_as_go_and_of_one_more(self):
        self.assertEqual(self.settings(NET, 0, 2), 9)
        self.assertEqual(self.settings(NET, 0, 3), 0)
        self.assertEqual(self.settings(NET, 5, 2), 0)
        twelve = ring_net([1] * 12)
        self.assertEqual([self.settings(twelve, 3, flames) for flames in range(1, 14)], [
            math.comb(12, flames) for flames in range(1, 14)])
        # Where the longest length goes into the lap just so often, the first beat alone tells all others.
        self.assertEqual(self.settings(ring_net([5] * 12), 3, 12), 5)
        self.assertEqual(self.settings(ring_net([5] * 12), 3, 13), 0)

    def test_of_many_more_flames_than_go(self):
        for flames in (4, 10, 41, 10 ** 9, SIXTY_FIGURES):
            self.assertEqual(self.settings(NET, 0, flames), 0)
            self.assertEqual(self.settings(((1, 0),), 0, flames), 0)
            self.assertEqual(self.settings(ring_net([SIXTY_FIGURES] * 3), 0, flames), 0)

    def test_all_of_small_rings(self):
        for (net, lamp, flames), told in ALL.items():
            self.assertEqual(self.settings(net, lamp, flames), len(told))

    def test_none_is_rising_and_one_more_than_go_is_none(self):
        for (net, lamp, flames), told in ALL.items():
            self.assertEqual(bool(told), flames <= more(net, [], lamp))

    def test_sixty_figures(self):
        length = SIXTY_FIGURES
        net = ring_net([length, length - 3, length])
        lap = 3 * length - 3
        self.assertEqual(self.settings(net, 1, 1), lap)
        # The other one is as far as the longest length at least on either side.
        self.assertEqual(self.settings(net, 1, 2), lap * (lap - 2 * length + 1) // 2)
        self.assertEqual(self.settings(net, 1, 3), 0)
        # Twelve lamps of like lengths: as the document of no number bounds what is told, it may be far greater.
        net = ring_net([length] * 11 + [length - 1])
        for flames in range(1, 12):
            lap = 12 * length - 1
            free = lap - flames * length
            told = lap * math.comb(free + flames - 1, flames - 1) // flames
            self.assertEqual(self.settings(net, 4, flames), told)
        self.assertEqual(self.settings(net, 4, 12), 0)
        self.assertEqual(self.settings(ring_net([length] * 12), 4, 12), length)

    def test_a_whole_number(self):
        for flames in (1, 2, 3, 50):
            self.assertIs(type(settings(NET, 0, flames)), int)

    def test_no_ring(self):
        for lamp in (3, 4):
            for flames in (1, 2, 50, 0, True):
                self.refuses_both_ways(NoRing, settings, net=NET, lamp=lamp, flames=flames)

    def test_refusals(self):
        self.refuses_in_order(settings, [
            ("net", NET, bad_nets(), NoNet), ("lamp", 0, bad_numbers(len(NET)), NoLamp),
            ("flames", 1, BAD_FLAMES, NoNumber)])
        self.refuses_in_order(settings, [
            ("net", NET, bad_nets(), NoNet), ("lamp", 0, [3, 4], NoRing), ("flames", 1, BAD_FLAMES, NoNumber)])


class SettingTest(LawTest):
    def setting(self, net, lamp, flames, number):
        return self.both_ways(setting, net=net, lamp=lamp, flames=flames, number=number)

    def test_all_of_small_rings_in_their_order(self):
        for (net, lamp, flames), told in ALL.items():
            self.assertEqual(told, sorted(told))
            self.assertEqual([self.setting(net, lamp, flames, number) for number in range(len(told))], told)
            for number in (len(told), len(told) + 1, SIXTY_FIGURES):
                self.refuses_both_ways(NoNumber, setting, net=net, lamp=lamp, flames=flames, number=number)

    def test_one_flame(self):
        self.assertEqual([self.setting(NET, 0, 1, number) for number in range(9)], [(beat,) for beat in range(9)])
        self.assertEqual(self.setting(((1, 0),), 0, 1, 0), (0,))
        self.assertEqual(self.setting(((SIXTY_FIGURES, 0),), 0, 1, SIXTY_FIGURES - 1), (SIXTY_FIGURES - 1,))
        self.refuses_both_ways(
            NoNumber, setting, net=((SIXTY_FIGURES, 0),), lamp=0, flames=1, number=SIXTY_FIGURES)

    def test_as_many_as_go(self):
        # Gaps of four and five beats.
        told = [(0, 4), (0, 5), (1, 5), (1, 6), (2, 6), (2, 7), (3, 7), (3, 8), (4, 8)]
        for lamp in range(3):
            self.assertEqual([self.setting(NET, lamp, 2, number) for number in range(9)], told)
            self.refuses_both_ways(NoNumber, setting, net=NET, lamp=lamp, flames=2, number=9)

    def test_one_more_than_go_has_no_number(self):
        for net, lamp, flames in ((NET, 0, 3), (NET, 5, 2), (NET, 0, SIXTY_FIGURES), (((1, 0),), 0, 2)):
            for number in (0, 1, SIXTY_FIGURES):
                self.refuses_both_ways(NoNumber, setting, net=net, lamp=lamp, flames=flames, number=number)

    def test_the_first_and_the_last_of_sixty_figures(self):
        length = SIXTY_FIGURES
        for lengths in ([length, length - 3, length, 5], [length] * 11 + [length - 1], [length // 7] * 12):
            net = ring_net(lengths)
            lap, longest = lap_of(net, 0)
            for flames in range(1, lap // longest + 1):
                many = settings(net, 0, flames)
                self.assertEqual(self.setting(net, 0, flames, 0), tuple(longest * at for at in range(flames)))
                last = self.setting(net, 0, flames, many - 1)
                self.assertEqual(last, tuple(lap - 1 - longest * at for at in reversed(range(flames))))
                self.refuses_both_ways(NoNumber, setting, net=net, lamp=0, flames=flames, number=many)
                self.refuses_both_ways(NoNumber, setting, net=net, lamp=0, flames=flames, number=many + 1)

    def test_each_one_of_sixty_figures_is_a_setting_and_they_rise(self):
        dice = random.Random(91)
        for lengths in ([SIXTY_FIGURES - 3, SIXTY_FIGURES, 5], [SIXTY_FIGURES // 3] * 12,
                        [dice.randint(1, SIXTY_FIGURES) for _ in range(8)]):
            net = ring_net(lengths)
            lap, longest = lap_of(net, 0)
            for flames in range(1, lap // longest + 1):
                many = settings(net, 0, flames)
                numbers = sorted(dice.randrange(min(many, SIXTY_FIGURES)) for _ in range(12))
                told = [self.setting(net, 0, flames, number) for number in numbers]
                self.assertEqual(told, sorted(told))
                self.assertEqual(len(set(told)), len(set(numbers)))
                for beats in told:
                    self.assertEqual(len(beats), flames)
                    self.assertTrue(is_setting(net, 0, beats))

    def test_numbers_side_by_side_have_nothing_between_them(self):
        """Of two settings that stand side by side the later one is the least that is greater, told by its last part."""
        net = ring_net([SIXTY_FIGURES // 2, SIXTY_FIGURES // 3, SIXTY_FIGURES // 2, 77])
        lap, longest = lap_of(net, 0)
        dice = random.Random(92)
        for flames in range(1, lap // longest + 1):
            for _ in range(30):
                number = dice.randrange(min(settings(net, 0, flames) - 1, SIXTY_FIGURES))
                one, two = self.setting(net, 0, flames, number), self.setting(net, 0, flames, number + 1)
                self.assertLess(one, two)
                if one[:-1] == two[:-1]:
                    self.assertEqual(one[-1] + 1, two[-1])
                else:
                    self.assertFalse(is_setting(net, 0, one[:-1] + (one[-1] + 1,)))
                    alike = [at for at in range(flames) if one[:at] == two[:at]][-1]
                    self.assertEqual(two[alike], one[alike] + 1)
                    self.assertEqual([two[at] - two[at - 1] for at in range(alike + 1, flames)], [
                        longest] * (flames - alike - 1))

    def test_by_counting_those_ahead(self):
        """The number of a setting is how many stand ahead of it: counted in full for a ring of some size."""
        net = ring_net([3, 4, 2, 4, 3, 4])
        lap, longest = lap_of(net, 2)
        for flames in range(1, 6):
            told = [beats for beats in itertools.combinations(range(lap), flames)
                    if all(two - one >= longest for one, two in zip(beats, beats[1:]))
                    and beats[0] + lap - beats[-1] >= longest]
            self.assertEqual(settings(net, 2, flames), len(told))
            self.assertEqual([setting(net, 2, flames, number) for number in range(len(told))], told)

    def test_a_setting_goes_for_ever_kindled_at_any_lap(self):
        for (net, lamp, flames), told in ALL.items():
            for beats in told[::4]:
                for behind in (0, 3, 10 ** 59):
                    kindlings = later([(beat, lamp) for beat in beats], behind)
                    self.assertEqual(losses(net, kindlings), [])
                    self.assertEqual({fate[0] for fate in fates(net, kindlings)}, {"goes"})
                    self.assertEqual(len(gaps(net, kindlings, lamp)), flames)

    def test_a_tuple_of_whole_numbers(self):
        told = setting(NET, 0, 2, 3)
        self.assertIsInstance(told, tuple)
        self.assertEqual({type(beat) for beat in told}, {int})

    def test_no_ring(self):
        for lamp in (3, 4):
            for flames, number in ((1, 0), (0, 0), (None, None), (1, -1), (99, 0)):
                self.refuses_both_ways(NoRing, setting, net=NET, lamp=lamp, flames=flames, number=number)

    def test_refusals(self):
        for lamps, kind in ((bad_numbers(len(NET)), NoLamp), ([3, 4], NoRing)):
            self.refuses_in_order(setting, [
                ("net", NET, bad_nets(), NoNet), ("lamp", 0, lamps, kind), ("flames", 2, BAD_FLAMES, NoNumber),
                ("number", 0, bad_numbers(9), NoNumber)])


if __name__ == "__main__":
    unittest.main()
