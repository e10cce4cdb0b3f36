"""Point 2: what is handed in is neither changed nor kept, and each list that is told is the asker's own."""

import copy
import unittest

from emberlane.alone import gap_of, lights_alone, place_alone
from emberlane.fates import burning_at, fates, lightings, losses, losses_hold
from emberlane.parts import none_lost_at, parted, together
from emberlane.rests import burns_from, can_burn, gaps, keepers, rest_of, round_of_lamps
from emberlane.robbers import idle, lasting, robbed, root_of, without
from emberlane.rooms import first_room, more, rooms, setting, settings
from emberlane.texts import read_story, show_happened, show_kindlings, show_net
from tests.helpers import LawTest

NET = ((2, 1), (3, 0), (4, 3), (5, None))
# Flame 1 robs 0 at lamp 1, flame 3 robs 2 at lamp 3, the last one is lost to nobody.
KINDLINGS = [(0, 0), (0, 1), (1, 2), (2, 3), (9, 2)]


def calls():
    """Each function with what is handed in to it, in lists of their own."""
    handed = [
        (place_alone, NET, (0, 0), 3), (lights_alone, NET, (0, 0), 1), (gap_of, NET, (0, 0), (4, 1)),
        (fates, NET, KINDLINGS), (losses, NET, KINDLINGS), (burning_at, NET, KINDLINGS, 3),
        (lightings, NET, KINDLINGS, 0, 2), (losses_hold, NET, KINDLINGS, losses(NET, KINDLINGS)),
        (losses_hold, NET, KINDLINGS, losses(NET, KINDLINGS)[::-1]), (robbed, NET, KINDLINGS),
        (root_of, NET, KINDLINGS, 0), (idle, NET, KINDLINGS), (without, NET, KINDLINGS, [0, 3]),
        (without, NET, KINDLINGS, []), (lasting, NET, KINDLINGS), (rest_of, NET, KINDLINGS),
        (round_of_lamps, NET, KINDLINGS), (gaps, NET, KINDLINGS, 1), (gaps, NET, [], 0), (burns_from, NET, KINDLINGS, 0),
        (can_burn, NET, 0), (keepers, ((2, 1), (2, 0)), 0, 3), (first_room, ((2, 1), (2, 0)), [(1, 0)], 1, 9),
        (rooms, NET, KINDLINGS, 1), (more, NET, KINDLINGS, 0), (settings, NET, 0, 1), (setting, NET, 0, 1, 3),
        (parted, NET, 1, 2), (together, NET, 0), (none_lost_at, NET, KINDLINGS, 3), (show_net, NET),
        (show_kindlings, NET, KINDLINGS), (show_happened, [("lit", 0, 1, 0), ("lost", 3, 1, 2, 0)]),
        (read_story, show_net(NET) + show_kindlings(NET, KINDLINGS))]
    return [(function, copy.deepcopy(list(given))) for function, *given in handed]


class HandedInTest(LawTest):
    def test_nothing_is_changed(self):
        for function, given in calls():
            with self.subTest(function.__name__):
                was = copy.deepcopy(given)
                function(*given)
                self.assertEqual(given, was)

    def test_nothing_is_kept(self):
        for function, given in calls():
            with self.subTest(function.__name__):
                told = function(*given)
                was = copy.deepcopy(told)
                for thing in given:
                    if isinstance(thing, list):
                        thing.clear()
                self.assertEqual(told, was)
        for (function, given), (_, same) in zip(calls(), calls()):
            self.assertEqual(function(*given), function(*same))

    def test_what_is_told_is_the_askers_own(self):
        for function, given in calls():
            with self.subTest(function.__name__):
                told = function(*given)
                was = copy.deepcopy(told)
                if not isinstance(told, (list, tuple)):
                    continue
                for thing in told:
                    if isinstance(thing, list):
                        thing.append("more")
                if isinstance(told, tuple):
                    self.assertEqual(function(*given), was)
                    continue
                told.append("more")
                self.assertEqual(function(*given), was)
                self.assertIsNot(function(*given), function(*given))

    def test_what_is_told_may_be_handed_in(self):
        flames = idle(NET, KINDLINGS)
        self.assertEqual(without(NET, KINDLINGS, flames), [(0, 1), (2, 3)])
        self.assertEqual(fates(NET, without(NET, KINDLINGS, flames)), [("goes", 0, 3), ("ended", 7, 3)])
        self.assertIs(losses_hold(NET, KINDLINGS, losses(NET, KINDLINGS)), True)
        self.assertEqual(losses(NET, lasting(NET, KINDLINGS)), [])
        net = parted(NET, 1, 2)
        self.assertEqual(together(net, 1), NET)
        self.assertEqual(read_story(show_net(net) + show_kindlings(net, KINDLINGS)), (net, KINDLINGS))
        ring = ((2, 1), (2, 0))
        self.assertEqual(burns_from(ring, keepers(ring, 1, 4), 1), 4)
        self.assertEqual(gaps(ring, keepers(ring, 1, 4), 0), [2, 2])
        beat = first_room(ring, [(1, 0)], 0, rest_of(ring, [(1, 0)])[0] + 1)
        self.assertEqual(more(ring, [(1, 0), (beat, 0)], 0), 0)
        self.assertEqual(setting(ring, 0, 2, settings(ring, 0, 2) - 1), (1, 3))


if __name__ == "__main__":
    unittest.main()
