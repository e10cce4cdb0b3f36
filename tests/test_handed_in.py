"""Point 2: what is handed in is neither changed nor kept, and each list that is told is the asker's own."""

import copy
import unittest

from emberlane.alone import gap_of, lights_alone, place_alone
from emberlane.fates import burning_at, fates, lightings, losses, losses_hold
from emberlane.robbers import idle, lasting, robbed, root_of, without
from tests.helpers import LawTest

NET = ((2, 1), (3, 0), (4, 3), (5, None))
# Flame 1 robs 0 at lamp 1, flame 3 robs 2 at lamp 3, the last one is lost to nobody.
KINDLINGS = [(0, 0), (0, 1), (1, 2), (2, 3), (9, 2)]


def calls():
    """Each function with what is handed in to it, in lists of their own."""
    handed = [
        (place_alone, NET, (0, 0), 3), (lights_alone, NET, (0, 0), 1), (gap_of, NET, (0, 0), (4, 1)),
        (fates, NET, KINDLINGS), (losses, NET, KINDLINGS), (burning_at, NET, KINDLINGS, 3),
        (lightings, NET, KINDLINGS, 0, 2), (losses_hold, NET, KINDLINGS, losses(NET, KINDLINGS)),
        (losses_hold, NET, KINDLINGS, losses(NET, KINDLINGS)[::-1]), (robbed, NET, KINDLINGS),
        (root_of, NET, KINDLINGS, 0), (idle, NET, KINDLINGS), (without, NET, KINDLINGS, [0, 3]),
        (without, NET, KINDLINGS, []), (lasting, NET, KINDLINGS)]
    return [(function, copy.deepcopy(list(given))) for function, *given in handed]


class HandedInTest(LawTest):
    def test_nothing_is_changed(self):
        for function, given in calls():
            with self.subTest(function.__name__):
                was = copy.deepcopy(given)
                function(*given)
                self.assertEqual(given, was)

    def test_nothing_is_kept(self):
        for function, given in calls():
            with self.subTest(function.__name__):
                told = function(*given)
                was = copy.deepcopy(told)
                for thing in given:
                    if isinstance(thing, list):
                        thing.clear()
                self.assertEqual(told, was)
        for (function, given), (_, same) in zip(calls(), calls()):
            self.assertEqual(function(*given), function(*same))

    def test_what_is_told_is_the_askers_own(self):
        for function, given in calls():
            with self.subTest(function.__name__):
                told = function(*given)
                was = copy.deepcopy(told)
                if not isinstance(told, list):
                    continue
                for thing in told:
                    if isinstance(thing, list):
                        thing.append("more")
                told.append("more")
                self.assertEqual(function(*given), was)
                self.assertIsNot(function(*given), function(*given))

    def test_what_is_told_may_be_handed_in(self):
        flames = idle(NET, KINDLINGS)
        self.assertEqual(without(NET, KINDLINGS, flames), [(0, 1), (2, 3)])
        self.assertEqual(fates(NET, without(NET, KINDLINGS, flames)), [("goes", 0, 3), ("ended", 7, 3)])
        self.assertIs(losses_hold(NET, KINDLINGS, losses(NET, KINDLINGS)), True)
        self.assertEqual(losses(NET, lasting(NET, KINDLINGS)), [])


if __name__ == "__main__":
    unittest.main()
