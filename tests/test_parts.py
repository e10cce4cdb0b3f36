"""Point 21: parted lamps, lamps put together, and lamps at which nobody is lost."""

import random
import unittest

from emberlane.errors import NoKindlings, NoLamp, NoNet, NoPart
from emberlane.fates import burning_at, fates, losses
from emberlane.nets import is_net, lap_of, way_of
from emberlane.parts import none_lost_at, parted, together
from tests.helpers import (
    SIXTY_FIGURES, LawTest, bad_kindlings, bad_nets, bad_numbers, losses_of_walk, ring_cases, some_cases_in_any_order,
    some_net, strange_things, times, walk)

# 0 to 1, round 2, 4, 3; 5 to 6, which ends; 7 is its own next; 8 leads to 7.
NET = ((2, 1), (3, 2), (5, 4), (7, 2), (11, 3), (13, 6), (17, None), (19, 7), (1, 7))

TWELVE = tuple((at + 2, (at + 1) % 12) for at in range(12))


def bad_parts(length):
    """Things that are no part of a length."""
    return strange_things() + [None, 0, -1, -length, length, length + 1, SIXTY_FIGURES, -SIXTY_FIGURES, "1", 1.0]


def some_nets(seed, many):
    dice = random.Random(seed)
    return [some_net(dice, 9, 6) for _ in range(many)]


class PartedTest(LawTest):
    def parted(self, net, lamp, part):
        told = self.both_ways(parted, net=net, lamp=lamp, part=part)
        self.assertTrue(is_net(told))
        return told

    def test_the_new_lamp_is_the_last_one(self):
        self.assertEqual(self.parted(NET, 2, 2), NET[:2] + ((2, 9),) + NET[3:] + ((3, 4),))
        self.assertEqual(self.parted(NET, 0, 1), ((1, 9),) + NET[1:] + ((1, 1),))
        self.assertEqual(self.parted(((2, None),), 0, 1), ((1, 1), (1, None)))

    def test_parts_of_one_and_of_the_length_less_one(self):
        for part in range(1, 11):
            self.assertEqual(self.parted(NET, 4, part), NET[:4] + ((part, 9),) + NET[5:] + ((11 - part, 3),))

    def test_a_lamp_whose_way_ends(self):
        self.assertEqual(self.parted(NET, 6, 16), NET[:6] + ((16, 9),) + NET[7:] + ((1, None),))

    def test_a_lamp_that_is_its_own_next(self):
        self.assertEqual(self.parted(((5, 0),), 0, 2), ((2, 1), (3, 0)))
        self.assertEqual(self.parted(NET, 7, 4), NET[:7] + ((4, 9),) + NET[8:] + ((15, 7),))

    def test_lamps_that_lead_to_it_lead_to_its_first_part(self):
        told = self.parted(NET, 2, 2)
        self.assertEqual([told[at][1] for at in (1, 3)], [2, 2])
        self.assertEqual(way_of(told, 0), ((0, 1), (2, 9, 4, 3)))

    def test_sixty_figures(self):
        length = SIXTY_FIGURES
        for part in (1, length // 2, length - 1):
            self.assertEqual(self.parted(((length, 0),), 0, part), ((part, 1), (length - part, 0)))
        self.refuses_both_ways(NoPart, parted, net=((length, 0),), lamp=0, part=length)

    def test_a_net_of_eleven_and_of_twelve(self):
        self.assertEqual(self.parted(TWELVE[:10] + ((7, 0),), 10, 3), TWELVE[:10] + ((3, 11), (4, 0)))
        for part in (1, 2, 3, 12, 13, 0, True, None):
            for lamp in (0, 11):
                self.refuses_both_ways(NoPart, parted, net=TWELVE, lamp=lamp, part=part)

    def test_a_lamp_of_length_one_has_no_part(self):
        for part in (-1, 0, 1, 2, True, False, None):
            self.refuses_both_ways(NoPart, parted, net=NET, lamp=8, part=part)

    def test_parted_and_put_together_again_it_is_the_net_that_it_was(self):
        for net in some_nets(101, 200):
            for lamp in range(len(net)):
                for part in range(1, net[lamp][0]):
                    told = self.parted(net, lamp, part)
                    self.assertEqual(together(told, lamp), net)

    def test_the_lap_is_as_it_was(self):
        for net in some_nets(102, 100):
            for lamp in range(len(net)):
                if net[lamp][0] > 1:
                    told = self.parted(net, lamp, 1)
                    for at in range(len(net)):
                        self.assertEqual(lap_of(net, at) and lap_of(net, at)[0], lap_of(told, at) and lap_of(told, at)[0])

    def test_refusals(self):
        self.refuses_in_order(parted, [
            ("net", NET, bad_nets(), NoNet), ("lamp", 2, bad_numbers(len(NET)), NoLamp),
            ("part", 2, bad_parts(5), NoPart)])
        self.refuses_in_order(parted, [
            ("net", TWELVE, bad_nets(), NoNet), ("lamp", 0, bad_numbers(12), NoLamp), ("part", 1, [], None)])


class TogetherTest(LawTest):
    def together(self, net, lamp):
        told = self.both_ways(together, net=net, lamp=lamp)
        self.assertTrue(is_net(told))
        return told

    def test_with_a_higher_number(self):
        self.assertEqual(self.together(((2, 1), (3, None)), 0), ((5, None),))
        self.assertEqual(self.together(((2, 2), (3, None), (4, 3), (5, 1)), 0), ((6, 2), (3, None), (5, 1)))
        self.assertEqual(self.together(((2, 2), (3, 0), (4, 3), (5, None)), 0), ((6, 2), (3, 0), (5, None)))

    def test_with_a_lower_number(self):
        self.assertEqual(self.together(((3, None), (2, 0)), 1), ((5, None),))
        self.assertEqual(self.together(((4, 3), (3, None), (2, 0), (5, 2)), 2), ((3, None), (6, 2), (5, 1)))
        self.assertEqual(self.together(((4, 1), (3, None), (2, 0), (5, 2)), 2), ((3, None), (6, 0), (5, 1)))

    def test_numbers_above_the_next_ones_are_told_anew(self):
        self.assertEqual(self.together(NET, 5), (
            (2, 1), (3, 2), (5, 4), (7, 2), (11, 3), (30, None), (19, 6), (1, 6)))
        self.assertEqual(self.together(NET, 0), (
            (5, 1), (5, 3), (7, 1), (11, 2), (13, 5), (17, None), (19, 6), (1, 6)))
        self.assertEqual(self.together(NET, 2), (
            (2, 1), (3, 2), (16, 3), (7, 2), (13, 5), (17, None), (19, 6), (1, 6)))
        self.assertEqual(self.together(NET, 4), (
            (2, 1), (3, 2), (5, 3), (18, 2), (13, 5), (17, None), (19, 6), (1, 6)))

    def test_the_next_one_leads_back_to_the_lamp(self):
        self.assertEqual(self.together(((2, 1), (3, 0)), 0), ((5, 0),))
        self.assertEqual(self.together(((2, 1), (3, 0)), 1), ((5, 0),))
        self.assertEqual(self.together(((1, 0), (2, 3), (7, None), (3, 1), (4, 1)), 1), (
            (1, 0), (5, 1), (7, None), (4, 1)))
        self.assertEqual(self.together(((1, 0), (2, 3), (7, None), (3, 1), (4, 3)), 3), (
            (1, 0), (7, None), (5, 2), (4, 2)))

    def test_a_ring_put_together_lamp_by_lamp(self):
        net = TWELVE
        for _ in range(11):
            net = self.together(net, 0)
        self.assertEqual(net, ((sum(length for length, _ in TWELVE), 0),))

    def test_sixty_figures(self):
        length = SIXTY_FIGURES
        self.assertEqual(self.together(((length, 1), (length, 0)), 0), ((2 * length, 0),))

    def test_no_next_one(self):
        self.refuses_both_ways(NoPart, together, net=((2, None),), lamp=0)
        self.refuses_both_ways(NoPart, together, net=NET, lamp=6)
        self.refuses_both_ways(NoPart, together, net=((2, None), (2, None)), lamp=1)

    def test_its_own_next(self):
        self.refuses_both_ways(NoPart, together, net=((2, 0),), lamp=0)
        self.refuses_both_ways(NoPart, together, net=NET, lamp=7)

    def test_another_lamp_leads_to_its_next(self):
        for lamp in (1, 3, 8):
            self.refuses_both_ways(NoPart, together, net=NET, lamp=lamp)
        self.refuses_both_ways(NoPart, together, net=((2, 2), (2, 2), (2, None)), lamp=0)
        self.refuses_both_ways(NoPart, together, net=((2, 2), (2, 2), (2, None)), lamp=1)
        # One that leads there by another one, or to the lamp itself, is no matter.
        self.assertEqual(self.together(((2, 1), (2, 2), (2, None)), 1), ((2, 1), (4, None)))

    def test_the_next_one_leads_to_itself(self):
        self.refuses_both_ways(NoPart, together, net=((2, 1), (2, 1)), lamp=0)
        self.refuses_both_ways(NoPart, together, net=((2, 0), (2, 0)), lamp=1)

    def test_each_lamp_of_drawn_nets(self):
        done = 0
        for net in some_nets(103, 300):
            for lamp in range(len(net)):
                length, gone = net[lamp]
                leading = [at for at in range(len(net)) if net[at][1] == gone]
                if gone is None or gone == lamp or leading != [lamp]:
                    self.refuses_both_ways(NoPart, together, net=net, lamp=lamp)
                    continue
                kept = [at for at in range(len(net)) if at != gone]
                told = self.together(net, lamp)
                self.assertEqual(len(told), len(kept))
                for at, (burns, onward) in zip(kept, told):
                    goes = net[gone][1] if at == lamp else net[at][1]
                    self.assertEqual(burns, length + net[gone][0] if at == lamp else net[at][0])
                    self.assertEqual(onward, None if goes is None else kept.index(goes))
                done += 1
        self.assertGreater(done, 200)

    def test_refusals(self):
        self.refuses_in_order(together, [("net", NET, bad_nets(), NoNet), ("lamp", 0, bad_numbers(len(NET)), NoLamp)])
        for lamp in (1, 3, 6, 7, 8):
            for net in ((), [NET], None):
                self.refuses_both_ways(NoNet, together, net=net, lamp=lamp)


def walked_cases():
    """Drawn cases with the losses of their walks."""
    told = []
    for net, kindlings in some_cases_in_any_order(104, 150) + ring_cases(105, 150, 4):
        rows, _ = walk(net, kindlings, 200)
        told.append((net, kindlings, losses_of_walk(rows)))
    return told


CASES = walked_cases()


class NoneLostTest(LawTest):
    def none_lost(self, net, kindlings, lamp):
        told = self.both_ways(none_lost_at, net=net, kindlings=kindlings, lamp=lamp)
        self.assertIsInstance(told, bool)
        return told

    def test_nothing_kindled(self):
        for lamp in range(len(NET)):
            self.assertIs(self.none_lost(NET, [], lamp), True)

    def test_whether_nobody_is_lost(self):
        net = ((2, 1), (5, None))
        self.assertEqual([self.none_lost(net, [(0, 0), (2, 0)], lamp) for lamp in range(2)], [True, False])
        self.assertEqual([self.none_lost(net, [(0, 0), (5, 0)], lamp) for lamp in range(2)], [True, True])

    def test_one_that_is_lost_there_as_it_is_kindled(self):
        net = ((2, 1), (5, None))
        self.assertEqual([self.none_lost(net, [(0, 0), (1, 0)], lamp) for lamp in range(2)], [False, True])
        self.assertEqual([self.none_lost(net, [(0, 0), (3, 1)], lamp) for lamp in range(2)], [True, False])
        self.assertEqual([self.none_lost(net, [(0, 1), (0, 1)], lamp) for lamp in range(2)], [True, False])

    def test_those_of_the_walk(self):
        for net, kindlings, lost in CASES:
            for lamp in range(len(net)):
                self.assertEqual(self.none_lost(net, kindlings, lamp), lamp not in [row[1] for row in lost])

    def test_sixty_figures(self):
        length = SIXTY_FIGURES
        net = ((length, 1), (1, 0))
        self.assertIs(self.none_lost(net, [(0, 0), (length, 0)], 0), False)
        self.assertIs(self.none_lost(net, [(0, 0), (length, 0)], 1), True)

    def test_parted_anywhere_each_flame_does_as_it_did(self):
        """What burns in one of the parts is what burnt in the lamp."""
        done = 0
        for net, kindlings, _ in CASES:
            for lamp in range(len(net)):
                length = net[lamp][0]
                if not none_lost_at(net, kindlings, lamp):
                    continue
                for part in range(1, length):
                    told = parted(net, lamp, part)
                    self.assertEqual(self.fates_put_together(told, kindlings, lamp), self.fates_of(net, kindlings, lamp))
                    for beat in range(0, 60, 7):
                        burning = burning_at(told, kindlings, beat)
                        rest = burning.pop()
                        self.assertTrue(rest is None or burning[lamp] is None)
                        if rest is not None:
                            burning[lamp] = (rest[0], rest[1] + part)
                        self.assertEqual(burning, burning_at(net, kindlings, beat))
                    done += bool(kindlings)
        self.assertGreater(done, 500)

    def fates_of(self, net, kindlings, lamp):
        """The fates, but of those that go for ever the lamp, and the beat at it, are left out."""
        return [fate[:1] if fate[0] == "goes" else fate for fate in fates(net, kindlings)]

    def fates_put_together(self, net, kindlings, lamp):
        """The like of a parted net, the new lamp told as the one that was parted."""
        new = len(net) - 1
        return [tuple(lamp if at == 2 and part == new else part for at, part in enumerate(fate))
                for fate in self.fates_of(net, kindlings, lamp)]

    def test_parted_anywhere_with_great_numbers(self):
        dice = random.Random(106)
        for net, kindlings, _ in CASES[::3]:
            net, kindlings = times(net, kindlings, 10 ** 57)
            for lamp in range(len(net)):
                if none_lost_at(net, kindlings, lamp):
                    told = parted(net, lamp, dice.randrange(1, net[lamp][0]))
                    self.assertEqual(losses(told, kindlings), losses(net, kindlings))

    def test_where_one_is_lost_parting_may_spare_it(self):
        net, kindlings = ((5, None),), [(0, 0), (3, 0)]
        self.assertIs(self.none_lost(net, kindlings, 0), False)
        self.assertEqual(losses(parted(net, 0, 3), kindlings), [])
        self.assertEqual(losses(parted(net, 0, 4), kindlings), [(3, 0, 1, 0)])

    def test_refusals(self):
        self.refuses_in_order(none_lost_at, [
            ("net", NET, bad_nets(), NoNet), ("kindlings", [(0, 0)], bad_kindlings(NET), NoKindlings),
            ("lamp", 0, bad_numbers(len(NET)), NoLamp)])


if __name__ == "__main__":
    unittest.main()
