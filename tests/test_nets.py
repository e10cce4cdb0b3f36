"""Points 5 and 6: nets, kindlings, ways, rings and laps."""

import random
import unittest

from emberlane.errors import NoLamp, NoNet
from emberlane.nets import are_kindlings, is_net, lap_of, rings, way_of
from tests.helpers import SIXTY_FIGURES, LawTest, Stranger, deep, deep_pair, some_net, strange_things

ONE = ((1, None),)
TWELVE = tuple((lamp + 1, (lamp + 1) % 12) for lamp in range(12))
# 0 to 1, then round 2, 4, 3; 5 ends behind 6; 7 is its own next; 8 leads to 7.
MIXED = ((2, 1), (3, 2), (5, 4), (7, 2), (11, 3), (13, 6), (17, None), (19, 7), (23, 7))

BAD_NETS = strange_things() + [
    None, (), ONE[0], list(ONE), [list(ONE[0])], {0: ONE[0]}, ((1, None),) * 13,
]


class IsNetTest(LawTest):
    def net(self, thing):
        told = self.both_ways(is_net, thing=thing)
        self.assertIn(told, (True, False))
        self.assertIsInstance(told, bool)
        return told

    def yes(self, thing):
        self.assertIs(self.net(thing), True, thing)

    def no(self, thing):
        self.assertIs(self.net(thing), False)

    def test_how_many_lamps(self):
        self.no(())
        self.yes(ONE)
        for many in range(1, 13):
            self.yes(ONE * many)
        self.yes(TWELVE)
        self.no(ONE * 13)
        self.no(ONE * 14)
        self.no(ONE * 500)

    def test_lengths(self):
        for length in (1, 2, 400, SIXTY_FIGURES):
            self.yes(((length, None),))
            self.yes(((3, 1), (length, 0)))
        for length in (0, -1, -SIXTY_FIGURES, True, False, "1", "", None, 1.0, 1.5, b"1", [1], (1,), (), Stranger()):
            self.no(((length, None),))
            self.no(((3, 1), (length, 0)))
            self.no(((length, 0), (3, 1)))

    def test_next_ones(self):
        for onward in (None, 0, 1, 2):
            self.yes(((1, None), (1, None), (1, onward)))
            self.yes(((1, onward), (1, None), (1, None)))
        for onward in (3, 4, -1, -3, SIXTY_FIGURES, True, False, "0", "", "-", 0.0, b"0", [0], (0,), (), Stranger()):
            self.no(((1, None), (1, None), (1, onward)))
            self.no(((1, onward), (1, None), (1, None)))

    def test_next_one_is_below_the_number_of_lamps(self):
        for many in range(1, 13):
            self.yes(((1, many - 1),) * many)
            self.no(((1, many),) * many)
            self.no(((1, None),) * (many - 1) + ((1, many),))
        self.yes(((1, 0),))
        self.no(((1, 1),))

    def test_lamps_of_other_forms(self):
        for lamp in ([1, None], (1,), (), (1, None, None), (1, 0, 0), None, 1, "1n", {1: None, 2: 0}, {1, 0},
                     range(1, 3), b"\x01\x00", (None, 1), Stranger(), True):
            self.no((lamp,))
            self.no(((1, None), lamp))
            self.no((lamp, (1, None)))

    def test_nets_of_other_forms(self):
        for thing in BAD_NETS:
            self.no(thing)

    def test_a_hundred_deep(self):
        for kind in (tuple, list):
            for thing in (deep(kind), deep_pair(kind)):
                self.no(thing)
                self.no((thing,))
                self.no(((1, thing),))
                self.no(((thing, None),))
                self.no(((1, None), thing))


class AreKindlingsTest(LawTest):
    NET = ((2, 1), (3, None), (1, 0))

    def told(self, thing, net=NET):
        told = self.both_ways(are_kindlings, net=net, thing=thing)
        self.assertIsInstance(told, bool)
        return told

    def yes(self, thing, net=NET):
        self.assertIs(self.told(thing, net), True, thing)

    def no(self, thing, net=NET):
        self.assertIs(self.told(thing, net), False)

    def test_how_many(self):
        for many in (0, 1, 2, 39, 40):
            self.yes([(0, 0)] * many)
            self.yes([(many - at, at % 3) for at in range(many)])
        for many in (41, 42, 300):
            self.no([(0, 0)] * many)

    def test_beats(self):
        for beat in (0, 1, 4000, SIXTY_FIGURES):
            self.yes([(beat, 1)])
            self.yes([(3, 1), (beat, 2)])
        for beat in (-1, -SIXTY_FIGURES, True, False, None, "0", 0.0, [0], (0,), Stranger()):
            self.no([(beat, 1)])
            self.no([(3, 1), (beat, 2)])
            self.no([(beat, 2), (3, 1)])

    def test_lamps(self):
        for lamp in (0, 1, 2):
            self.yes([(4, lamp)])
        for lamp in (3, 4, -1, -3, SIXTY_FIGURES, True, False, None, "0", 0.0, [0], (0,), Stranger()):
            self.no([(4, lamp)])
            self.no([(4, 0), (4, lamp)])
            self.no([(4, lamp), (4, 0)])
        self.yes([(4, 11)], TWELVE)
        self.no([(4, 12)], TWELVE)
        self.no([(4, 1)], ONE)

    def test_other_forms(self):
        for thing in ([[0, 0]], [(0,)], [()], [(0, 0, 0)], [None], [0], ["00"], [(0, 0), [0, 0]], [{0: 0, 1: 1}],
                      [range(2)], ((0, 0),), (), ((0, 0), (1, 1)), (0, 0), {0: 0}, None, 0):
            self.no(thing)

    def test_anything(self):
        for thing in strange_things():
            if thing == []:
                continue
            self.no(thing)
            self.no([thing])
            self.no([(0, 0), thing])
            self.no([(0, thing)])
            self.no([(thing, 0)])

    def test_a_hundred_deep(self):
        for kind in (tuple, list):
            for thing in (deep(kind), deep_pair(kind)):
                self.no(thing)
                self.no([(1, 1), thing])

    def test_what_is_no_net_is_refused(self):
        for net in BAD_NETS:
            for thing in ([], [(0, 0)], None, deep(list), (), True):
                self.refuses_both_ways(NoNet, are_kindlings, net=net, thing=thing)

    def test_nothing_is_changed(self):
        handed = [(3, 1), (0, 2)]
        are_kindlings(self.NET, handed)
        self.assertEqual(handed, [(3, 1), (0, 2)])


class WayTest(LawTest):
    def way(self, net, lamp):
        told = self.both_ways(way_of, net=net, lamp=lamp)
        self.assertIsInstance(told, tuple)
        self.assertEqual([type(part) for part in told], [tuple, tuple])
        return told

    def test_ways_that_end(self):
        self.assertEqual(self.way(ONE, 0), ((0,), ()))
        self.assertEqual(self.way(MIXED, 5), ((5, 6), ()))
        self.assertEqual(self.way(MIXED, 6), ((6,), ()))
        self.assertEqual(self.way(((1, None), (1, 0), (1, 1)), 2), ((2, 1, 0), ()))

    def test_ways_that_go_round_from_the_first_lamp_on(self):
        self.assertEqual(self.way(((1, 1), (1, 0)), 0), ((), (0, 1)))
        self.assertEqual(self.way(((1, 1), (1, 0)), 1), ((), (1, 0)))
        self.assertEqual(self.way(MIXED, 2), ((), (2, 4, 3)))
        self.assertEqual(self.way(MIXED, 4), ((), (4, 3, 2)))
        self.assertEqual(self.way(MIXED, 3), ((), (3, 2, 4)))
        self.assertEqual(self.way(TWELVE, 7), ((), (7, 8, 9, 10, 11, 0, 1, 2, 3, 4, 5, 6)))

    def test_ways_that_come_to_a_ring_behind_some_lamps(self):
        self.assertEqual(self.way(MIXED, 0), ((0, 1), (2, 4, 3)))
        self.assertEqual(self.way(MIXED, 1), ((1,), (2, 4, 3)))
        self.assertEqual(self.way(MIXED, 8), ((8,), (7,)))
        self.assertEqual(self.way(((1, 3), (1, 2), (1, 1), (1, 2)), 0), ((0, 3), (2, 1)))

    def test_a_lamp_that_is_its_own_next(self):
        self.assertEqual(self.way(((4, 0),), 0), ((), (0,)))
        self.assertEqual(self.way(MIXED, 7), ((), (7,)))

    def test_each_way_goes_by_the_next_ones(self):
        dice = random.Random(6)
        for _ in range(300):
            net = some_net(dice, 12)
            for lamp in range(len(net)):
                ahead, ring = self.way(net, lamp)
                gone = ahead + ring
                self.assertEqual(gone[0], lamp)
                self.assertEqual(len(set(gone)), len(gone))
                for one, other in zip(gone, gone[1:]):
                    self.assertEqual(net[one][1], other)
                self.assertEqual(net[gone[-1]][1], ring[0] if ring else None)


class RingsTest(LawTest):
    def rings(self, net):
        return self.both_ways(rings, net=net)

    def test_no_rings(self):
        self.assertEqual(self.rings(ONE), [])
        self.assertEqual(self.rings(((1, 1), (1, 2), (1, None))), [])

    def test_each_from_its_least_lamp_on(self):
        self.assertEqual(self.rings(((1, 2), (1, 0), (1, 1))), [(0, 2, 1)])
        self.assertEqual(self.rings(((1, None), (1, 3), (1, 1), (1, 2))), [(1, 3, 2)])
        self.assertEqual(self.rings(((1, 2), (1, 2), (1, 1))), [(1, 2)])
        self.assertEqual(self.rings(TWELVE), [tuple(range(12))])

    def test_rising(self):
        self.assertEqual(self.rings(MIXED), [(2, 4, 3), (7,)])
        self.assertEqual(self.rings(((1, 3), (1, 1), (1, 4), (1, 0), (1, 2))), [(0, 3), (1,), (2, 4)])
        self.assertEqual(self.rings(tuple((1, lamp) for lamp in range(12))), [(lamp,) for lamp in range(12)])

    def test_rings_are_those_of_the_ways(self):
        dice = random.Random(7)
        for _ in range(300):
            net = some_net(dice, 12)
            found = set()
            for lamp in range(len(net)):
                ring = way_of(net, lamp)[1]
                if ring:
                    least = ring.index(min(ring))
                    found.add(ring[least:] + ring[:least])
            self.assertEqual(self.rings(net), sorted(found))

    def test_a_list_of_tuples_that_is_the_askers_own(self):
        told = rings(MIXED)
        self.assertIsInstance(told, list)
        self.assertEqual([type(ring) for ring in told], [tuple, tuple])
        told.append("more")
        told[0] = None
        self.assertEqual(rings(MIXED), [(2, 4, 3), (7,)])


class LapTest(LawTest):
    def lap(self, net, lamp):
        return self.both_ways(lap_of, net=net, lamp=lamp)

    def test_laps_with_the_greatest_length(self):
        self.assertEqual(self.lap(((4, 0),), 0), (4, 4))
        for lamp in (2, 3, 4):
            self.assertEqual(self.lap(MIXED, lamp), (23, 11))
        self.assertEqual(self.lap(MIXED, 7), (19, 19))
        for lamp in range(12):
            self.assertEqual(self.lap(TWELVE, lamp), (78, 12))
        self.assertIsInstance(lap_of(MIXED, 2), tuple)

    def test_only_lamps_of_the_ring_count(self):
        for lamp in (0, 1):
            self.assertEqual(self.lap(MIXED, lamp), (23, 11))
        self.assertEqual(self.lap(MIXED, 8), (19, 19))
        self.assertEqual(self.lap(((100, 1), (2, 2), (3, 1)), 0), (5, 3))

    def test_none_where_the_way_ends(self):
        self.assertIsNone(self.lap(ONE, 0))
        self.assertIsNone(self.lap(MIXED, 5))
        self.assertIsNone(self.lap(MIXED, 6))

    def test_sixty_figures(self):
        net = ((SIXTY_FIGURES, 1), (SIXTY_FIGURES - 1, 0))
        self.assertEqual(self.lap(net, 1), (2 * SIXTY_FIGURES - 1, SIXTY_FIGURES))


class RefusedTest(LawTest):
    def test_no_net(self):
        for net in BAD_NETS:
            self.refuses_both_ways(NoNet, rings, net=net)
            for asked in (way_of, lap_of):
                self.refuses_both_ways(NoNet, asked, net=net, lamp=0)

    def test_no_net_goes_ahead_of_no_lamp(self):
        for net in BAD_NETS:
            for lamp in (-1, 12, None, True, "0", deep(tuple)):
                for asked in (way_of, lap_of):
                    self.refuses_both_ways(NoNet, asked, net=net, lamp=lamp)

    def test_no_lamp(self):
        for lamp in strange_things() + [None, -1, -9, 9, 10, SIXTY_FIGURES, -SIXTY_FIGURES]:
            for asked in (way_of, lap_of):
                self.refuses_both_ways(NoLamp, asked, net=MIXED, lamp=lamp)
        for asked in (way_of, lap_of):
            self.refuses_both_ways(NoLamp, asked, net=ONE, lamp=1)
            self.refuses_both_ways(NoLamp, asked, net=TWELVE, lamp=12)


if __name__ == "__main__":
    unittest.main()
