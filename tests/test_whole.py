"""Point 4: the promise of the whole: all agree with the walk beat by beat, and with one another."""

import itertools
import random
import unittest

from emberlane.alone import lights_alone, place_alone
from emberlane.fates import burning_at, fates, lightings, losses, losses_hold
from emberlane.nets import lap_of, rings, way_of
from emberlane.parts import none_lost_at, parted, together
from emberlane.rests import burns_from, can_burn, gaps, keepers, rest_of, round_of_lamps
from emberlane.robbers import idle, lasting, root_of, without
from emberlane.rooms import first_room, more, rooms, setting, settings
from emberlane.texts import read_story, show_happened, show_kindlings, show_net
from tests.helpers import (
    LawTest, fates_of_walk, losses_of_walk, ring_cases, some_cases_in_any_order, times, walk_to_rest)

FACTOR = 10 ** 57


def walked_cases():
    """Drawn cases with what their walks come to."""
    told = []
    drawn = ring_cases(121, 200, 7, most_length=4) + ring_cases(122, 60, 12) + some_cases_in_any_order(123, 100)
    for net, kindlings in drawn:
        told.append((net, kindlings) + walk_to_rest(net, kindlings))
    return told


CASES = walked_cases()


def first_free(net, kindlings):
    """The first beat behind the last kindling and from first on."""
    return max([rest_of(net, kindlings)[0]] + [beat + 1 for beat, _ in kindlings])


class WalkTest(LawTest):
    """What is told is what the walk beat by beat comes to."""

    def test_all_at_once(self):
        for net, kindlings, first, again, rows, pictures in CASES:
            # Three rounds behind first each flame has met all that it ever meets, for no round is less than a lap.
            self.assertEqual(fates(net, kindlings), fates_of_walk(net, kindlings, rows))
            self.assertEqual(losses(net, kindlings), losses_of_walk(rows))
            self.assertEqual([burning_at(net, kindlings, beat) for beat in range(len(pictures))], pictures)
            self.assertEqual(rest_of(net, kindlings), (first, again))
            for lamp in range(len(net)):
                lit = [(row[1], row[3]) for row in rows if row[0] == "lit" and row[2] == lamp]
                told = lightings(net, kindlings, lamp, 0, count=min(100, len(lit)))
                self.assertEqual(told, lit[:100])

    def test_what_burns_at_far_beats(self):
        dice = random.Random(124)
        for net, kindlings, first, again, _, pictures in CASES:
            for _ in range(5):
                behind = dice.randrange(10 ** 60)
                self.assertEqual(burning_at(net, kindlings, first + behind), pictures[first + behind % again])

    def test_room_is_where_the_walk_with_one_more_loses_nobody_more(self):
        many = 0
        for net, kindlings, _, _, rows, _ in CASES[::3]:
            start = first_free(net, kindlings)
            for ring in rings(net):
                lap, _ = lap_of(net, ring[0])
                found = 0
                for beat in range(start, start + lap):
                    with_one_more = kindlings + [(beat, ring[0])]
                    walked = walk_to_rest(net, with_one_more)[2]
                    room = losses_of_walk(walked) == losses_of_walk(rows)
                    self.assertEqual(first_room(net, kindlings, ring[0], beat) == beat, room)
                    if room:
                        self.assertEqual(fates_of_walk(net, with_one_more, walked)[-1][0], "goes")
                        self.assertEqual(sum(gaps(net, with_one_more, ring[0])), lap)
                    found += room
                self.assertEqual(rooms(net, kindlings, ring[0]), found)
                many += found
        self.assertGreater(many, 300)


class RingsTest(LawTest):
    """What goes for ever on a ring."""

    def test_as_many_as_the_longest_lamp_goes_into_the_lap_and_no_more(self):
        full = 0
        for net, kindlings, _, _, _, _ in CASES:
            told = fates(net, kindlings)
            for ring in rings(net):
                lap, longest = lap_of(net, ring[0])
                going = [fate for fate in told if fate[0] == "goes" and fate[1] == ring[0]]
                self.assertLessEqual(len(going), lap // longest)
                self.assertEqual(len(gaps(net, kindlings, ring[0])), len(going))
                full += len(going) == lap // longest
                # So many do go, wherever they are set.
                for lamp in ring:
                    beats = setting(net, lamp, lap // longest, 0)
                    self.assertEqual(losses(net, [(beat, lamp) for beat in beats]), [])
                    self.assertEqual(settings(net, lamp, lap // longest + 1), 0)
                self.assertEqual(more(net, [], ring[0]), lap // longest)
        self.assertGreater(full, 30)

    def test_whichever_go_on_keep_gaps_of_the_longest_length_at_least(self):
        for net, kindlings, _, _, _, _ in CASES:
            for ring in rings(net):
                lap, longest = lap_of(net, ring[0])
                between = gaps(net, kindlings, ring[-1])
                self.assertTrue(all(gap >= longest for gap in between))
                self.assertEqual(sum(between), lap if between else 0)

    def test_gaps_are_those_of_the_lightings(self):
        for net, kindlings, first, _, _, _ in CASES:
            told = fates(net, kindlings)
            for ring in rings(net):
                going = [flame for flame, fate in enumerate(told) if fate[0] == "goes" and fate[1] == ring[0]]
                for lamp in ring:
                    if not going:
                        self.assertEqual(lightings(net, kindlings, lamp, first), [])
                        continue
                    lit = lightings(net, kindlings, lamp, first, count=2 * len(going) + 1)
                    start = [flame for _, flame in lit].index(min(going))
                    beats = [beat for beat, _ in lit[start:start + len(going) + 1]]
                    self.assertEqual(gaps(net, kindlings, lamp), [two - one for one, two in zip(beats, beats[1:])])

    def test_a_lamp_burns_for_ever_just_where_all_gaps_are_its_length(self):
        for net, kindlings, first, again, _, _ in CASES:
            for lamp in range(len(net)):
                told = burns_from(net, kindlings, lamp)
                lit = [burning_at(net, kindlings, first + beat)[lamp] is not None for beat in range(again)]
                self.assertEqual(told is not None, all(lit))
                if told is None:
                    continue
                self.assertTrue(can_burn(net, lamp))
                self.assertEqual(set(gaps(net, kindlings, lamp)), {net[lamp][0]})
                self.assertEqual(rooms(net, kindlings, lamp), 0)
                self.assertEqual(more(net, kindlings, lamp), 0)
                self.assertTrue(told == 0 or burning_at(net, kindlings, told - 1)[lamp] is None)
                self.assertEqual(lightings(net, kindlings, lamp, told, count=1)[0][0], told)

    def test_keepers_are_a_setting(self):
        for net, _, _, _, _, _ in CASES:
            for lamp in range(len(net)):
                told = keepers(net, lamp, 0)
                if told is not None:
                    beats = tuple(beat for beat, _ in told)
                    self.assertEqual(beats, setting(net, lamp, len(told), 0))
                    self.assertEqual(settings(net, lamp, len(told)), net[lamp][0])

    def test_settings_are_what_room_makes_of_them(self):
        """Each setting of one flame more comes of as many settings as it has flames, with one more let in."""
        done = 0
        for net, _, _, _, _, _ in CASES[::2]:
            for ring in rings(net):
                lap, longest = lap_of(net, ring[0])
                if lap > 14:
                    continue
                for flames in range(1, lap // longest + 1):
                    many = settings(net, ring[0], flames)
                    told = [setting(net, ring[0], flames, number) for number in range(many)]
                    found = sum(rooms(net, [(beat, ring[0]) for beat in beats], ring[0]) for beats in told)
                    self.assertEqual(found, settings(net, ring[0], flames + 1) * (flames + 1))
                    done += found
        self.assertGreater(done, 500)

    def test_let_in_one_behind_the_other(self):
        """However they are let in, each where there is room, no more come than are told, and all go on."""
        dice = random.Random(125)
        for net, kindlings, _, _, _, _ in CASES:
            for lamp in range(len(net)):
                told = more(net, kindlings, lamp)
                came = list(kindlings)
                while more(net, came, lamp):
                    start = first_free(net, came) + dice.randrange(10)
                    came.append((first_room(net, came, lamp, start), lamp))
                self.assertLessEqual(len(came) - len(kindlings), told)
                self.assertGreaterEqual(len(came) - len(kindlings), min(told, 1))
                self.assertEqual(losses(net, came), losses(net, kindlings))
                self.assertEqual(rooms(net, came, lamp), 0)


class RestTest(LawTest):
    def test_the_rest_is_that_of_each_flame_alone(self):
        """From first on each flame that lasts goes as if alone, and nothing else burns."""
        for net, kindlings, first, again, _, _ in CASES:
            going = [flame for flame, fate in enumerate(fates(net, kindlings)) if fate[0] == "goes"]
            for beat in (first, first + 1, first + again, first + 10 ** 58):
                told = [None] * len(net)
                for flame in going:
                    lamp, burnt = place_alone(net, kindlings[flame], beat)
                    told[lamp] = (flame, burnt)
                self.assertEqual(burning_at(net, kindlings, beat), told)

    def test_who_is_lost_or_ends_changes_nothing_of_what_burns_for_ever(self):
        for net, kindlings, _, again, _, _ in CASES:
            kept = lasting(net, kindlings)
            self.assertEqual(rest_of(net, kept)[1], again)
            self.assertEqual(round_of_lamps(net, kept), round_of_lamps(net, kindlings))
            self.assertEqual(again % round_of_lamps(net, kindlings), 0)
            for ring in rings(net):
                self.assertEqual(gaps(net, kept, ring[0]), gaps(net, kindlings, ring[0]))
                self.assertEqual(rooms(net, kept, ring[0]), rooms(net, kindlings, ring[0]))
                self.assertEqual(more(net, kept, ring[0]), more(net, kindlings, ring[0]))
            if kept:
                self.assertLessEqual(rest_of(net, kept)[0], rest_of(net, kindlings)[0])

    def test_idle_ones_left_out(self):
        for net, kindlings, _, _, _, _ in CASES:
            told = fates(net, kindlings)
            lost = [flame for flame in idle(net, kindlings) if told[flame][0] == "lost"]
            kept = without(net, kindlings, lost)
            for ring in rings(net):
                self.assertEqual(gaps(net, kept, ring[0]), gaps(net, kindlings, ring[0]))

    def test_roots_last(self):
        for net, kindlings, _, _, _, _ in CASES:
            kept = lasting(net, kindlings)
            for flame in range(len(kindlings)):
                self.assertIn(kindlings[root_of(net, kindlings, flame)], kept)

    def test_with_great_numbers_all_agree_too(self):
        for net, kindlings, first, again, _, pictures in CASES[::2]:
            greater = times(net, kindlings, FACTOR)
            told = rest_of(*greater)
            self.assertEqual(told[0], first * FACTOR)
            self.assertIs(losses_hold(*greater, losses(*greater)), True)
            for beat in range(0, min(len(pictures), 40), 3):
                self.assertEqual(burning_at(*greater, beat * FACTOR + FACTOR - 1), [
                    part and (part[0], part[1] * FACTOR + FACTOR - 1) for part in pictures[beat]])


class PartsTest(LawTest):
    def test_where_nobody_is_lost_a_parted_lamp_changes_no_rest(self):
        done = 0
        for net, kindlings, first, again, _, _ in CASES[::2]:
            for lamp, part in itertools.product(range(len(net)), (1, 2)):
                if part < net[lamp][0] and none_lost_at(net, kindlings, lamp):
                    told = parted(net, lamp, part)
                    self.assertEqual(rest_of(told, kindlings), (first, again))
                    self.assertEqual(round_of_lamps(told, kindlings), round_of_lamps(net, kindlings))
                    if lamp in way_of(net, lamp)[1]:
                        self.assertEqual(gaps(told, kindlings, lamp), gaps(net, kindlings, lamp))
                        self.assertEqual(gaps(told, kindlings, len(net)), gaps(net, kindlings, lamp))
                        self.assertGreaterEqual(rooms(told, kindlings, lamp), rooms(net, kindlings, lamp))
                    self.assertEqual(together(told, lamp), net)
                    self.assertEqual(lights_alone(told, (3, lamp), lamp), lights_alone(net, (3, lamp), lamp))
                    done += 1
        self.assertGreater(done, 300)


class StoriesTest(LawTest):
    def test_a_story_that_is_read_back_comes_to_the_same(self):
        for net, kindlings, first, again, _, _ in CASES:
            for factor in (1, FACTOR):
                greater, beats = times(net, kindlings, factor)
                told = read_story(show_net(greater) + show_kindlings(greater, beats))
                self.assertEqual(told, (greater, beats))
                self.assertEqual(fates(*told), fates(greater, beats))
            self.assertEqual(rest_of(*read_story(show_net(net) + show_kindlings(net, kindlings))), (first, again))

    def test_what_happened_in_the_walk(self):
        for net, kindlings, _, _, rows, _ in CASES[::5]:
            text = show_happened(rows)
            self.assertEqual(text.count(" lost "), len(losses(net, kindlings)))
            for beat, lamp, flame, other in losses(net, kindlings):
                self.assertIn(f"{beat} lost {lamp} {flame} to {other}\n", text)
            for fate in fates(net, kindlings):
                if fate[0] == "ended":
                    self.assertIn(f"{fate[1]} ended {fate[2]} ", text)


if __name__ == "__main__":
    unittest.main()
