"""Points 11 and 12, and what point 4 says of them: fates, losses, what burns and lightings."""

import math
import random
import unittest

from emberlane.alone import gap_of, lights_alone
from emberlane.errors import NoBeat, NoKindlings, NoLamp, NoNet, NoNumber
from emberlane.fates import burning_at, fates, lightings, losses
from emberlane.nets import lap_of, way_of
from tests.helpers import (
    SIXTY_FIGURES, LawTest, bad_beats, bad_kindlings, bad_nets, bad_numbers, fates_of_walk, go_through, later,
    losses_of_walk, some_cases, some_cases_in_any_order, strange_things, times, walk, walk_of_embers)

NET = ((2, 1), (3, 0), (4, 3), (5, None))
KINDLINGS = [(0, 0), (0, 1), (1, 2), (2, 3), (9, 2)]
# Beats within which all flames of the drawn cases have come to rest.
HORIZON = 200

BAD_COUNTS = strange_things() + [None, -1, -100, 101, 102, SIXTY_FIGURES, -SIXTY_FIGURES]


def walked_cases():
    """Drawn cases with their walks: by the Embers, and for more flames and lamps by the walk of the tests."""
    told = []
    for net, kindlings in some_cases_in_any_order(31, 150):
        told.append((net, kindlings) + walk_of_embers(net, kindlings, HORIZON))
    for net, kindlings in some_cases_in_any_order(32, 150, 8, 12):
        told.append((net, kindlings) + walk(net, kindlings, HORIZON))
    for net, kindlings in some_cases(33, 50):
        rows = go_through(net, kindlings, HORIZON).happened()
        told.append((net, kindlings, rows, walk(net, kindlings, HORIZON)[1]))
    return told


CASES = walked_cases()


class CasesTest(unittest.TestCase):
    """The drawn cases are worth the while."""

    def test_both_walks_tell_the_same(self):
        for net, kindlings in some_cases_in_any_order(34, 100):
            self.assertEqual(walk(net, kindlings, 60), walk_of_embers(net, kindlings, 60))

    def test_there_is_something_of_each_kind(self):
        kinds = {}
        for net, kindlings, rows, _ in CASES:
            found = {fate[0] for fate in fates_of_walk(net, kindlings, rows)}
            lost = losses_of_walk(rows)
            if len({row[0] for row in lost}) < len(lost):
                found.add("several at one beat")
            if kindlings != sorted(kindlings):
                found.add("not sorted")
            if len({kindling for kindling in kindlings}) < len(kindlings):
                found.add("the same twice")
            for kind in found:
                kinds[kind] = kinds.get(kind, 0) + 1
        for kind in ("lost", "ended", "goes", "several at one beat", "not sorted", "the same twice"):
            self.assertGreater(kinds[kind], 50, kind)

    def test_all_has_come_to_rest(self):
        for net, kindlings, rows, _ in CASES:
            self.assertLess(max([row[1] for row in rows if row[0] != "lit"], default=0), HORIZON - 60)


class FatesTest(LawTest):
    def fates(self, net, kindlings):
        return self.both_ways(fates, net=net, kindlings=kindlings)

    def test_no_kindlings(self):
        self.assertEqual(self.fates(NET, []), [])

    def test_each_kind(self):
        self.assertEqual(self.fates(((3, None),), [(4, 0)]), [("ended", 7, 0)])
        self.assertEqual(self.fates(((3, None),), [(4, 0), (6, 0)]), [("ended", 7, 0), ("lost", 6, 0, 0)])
        self.assertEqual(self.fates(((3, 0),), [(4, 0)]), [("goes", 0, 4)])
        self.assertEqual(self.fates(NET, KINDLINGS), [
            ("lost", 2, 1, 1), ("goes", 0, 3), ("lost", 5, 3, 3), ("ended", 7, 3), ("ended", 18, 3)])

    def test_one_that_goes_is_told_by_the_least_lamp_of_its_ring(self):
        net = ((2, 3), (3, 2), (4, 3), (5, 1), (6, None))
        self.assertEqual(self.fates(net, [(7, 0)]), [("goes", 1, 14)])
        self.assertEqual(self.fates(net, [(7, 2)]), [("goes", 1, 16)])
        self.assertEqual(self.fates(net, [(7, 3)]), [("goes", 1, 12)])
        self.assertEqual(self.fates(net, [(7, 1)]), [("goes", 1, 7)])

    def test_those_of_the_walk(self):
        for net, kindlings, rows, _ in CASES:
            self.assertEqual(self.fates(net, kindlings), fates_of_walk(net, kindlings, rows))

    def test_sixty_figures(self):
        length = SIXTY_FIGURES
        net = ((length, 1), (length - 1, 2), (length - 2, 1), (length, None))
        self.assertEqual(self.fates(net, [(length, 0), (length, 3), (0, 2), (1, 3)]), [
            ("goes", 1, 2 * length), ("lost", length, 3, 3), ("lost", 3 * length - 5, 1, 0), ("ended", length + 1, 3)])
        # Of two flames of a ring that never meet each goes on, though their laps are beyond counting.
        ring = ((1, 1), (length - 1, 2), (length, 0))
        self.assertEqual(self.fates(ring, [(1, 1), (0, 2)]), [("goes", 0, 2 * length), ("goes", 0, length)])
        self.assertEqual(self.fates(((2, 1), (length, 0)), [(0, 1), (1, 0)]), [
            ("goes", 0, length), ("lost", 3, 1, 0)])

    def test_kinds_of_what_is_told(self):
        told = fates(NET, KINDLINGS)
        self.assertIsInstance(told, list)
        self.assertEqual({type(fate) for fate in told}, {tuple})

    def test_a_new_list(self):
        kindlings = list(KINDLINGS)
        told, again = fates(NET, kindlings), fates(NET, kindlings)
        told.clear()
        kindlings.clear()
        self.assertEqual(len(again), 5)
        self.assertEqual(fates(NET, KINDLINGS), again)

    def test_refusals(self):
        self.refuses_in_order(fates, [
            ("net", NET, bad_nets(), NoNet), ("kindlings", KINDLINGS, bad_kindlings(NET), NoKindlings)])


class LossesTest(LawTest):
    def losses(self, net, kindlings):
        return self.both_ways(losses, net=net, kindlings=kindlings)

    def test_nobody_lost(self):
        self.assertEqual(self.losses(NET, []), [])
        self.assertEqual(self.losses(NET, [(3, 0)]), [])
        self.assertEqual(self.losses(((3, None),), [(0, 0), (3, 0)]), [])
        self.assertEqual(self.losses(((3, None), (3, None)), [(0, 0), (0, 1)]), [])

    def test_lost_to_the_one_that_burns_even_by_a_lesser_number(self):
        self.assertEqual(self.losses(((1, 1), (5, None)), [(0, 0), (0, 1)]), [(1, 1, 0, 1)])
        self.assertEqual(self.losses(((1, 1), (5, None)), [(0, 1), (0, 0)]), [(1, 1, 1, 0)])

    def test_of_those_that_come_together_the_least_number_of_the_list_goes_on(self):
        net = ((4, 2), (2, 2), (5, None))
        self.assertEqual(self.losses(net, [(0, 0), (2, 1)]), [(4, 2, 1, 0)])
        self.assertEqual(self.losses(net, [(2, 1), (0, 0)]), [(4, 2, 1, 0)])
        self.assertEqual(self.losses(net, [(4, 2), (2, 1), (0, 0)]), [(4, 2, 1, 0), (4, 2, 2, 0)])

    def test_of_two_of_a_ring_that_come_together_the_least_number_of_the_list_goes_on(self):
        # The flame 1 has gone round by then, the flame 0 is kindled just as it comes.
        self.assertEqual(self.losses(((3, 1), (4, 0)), [(14, 0), (0, 0)]), [(14, 0, 1, 0)])
        self.assertEqual(self.losses(((3, 1), (4, 0)), [(0, 0), (14, 0)]), [(14, 0, 1, 0)])

    def test_lost_at_one_lamp_at_one_beat(self):
        net = ((1, 3), (2, 3), (3, 3), (9, None))
        kindlings = [(2, 0), (0, 2), (1, 1), (3, 3)]
        self.assertEqual(self.losses(net, kindlings), [(3, 3, 1, 0), (3, 3, 2, 0), (3, 3, 3, 0)])
        self.assertEqual(self.losses(net, kindlings + [(2, 3)]), [
            (3, 3, flame, 4) for flame in range(4)])
        self.assertEqual(self.losses(((5, None),), [(0, 0)] * 40), [(0, 0, flame, 0) for flame in range(1, 40)])

    def test_lost_at_several_lamps_at_one_beat(self):
        net = ((2, 2), (2, 3), (9, None), (9, None))
        kindlings = [(1, 3), (0, 1), (1, 2), (0, 0), (2, 2), (2, 3)]
        self.assertEqual(self.losses(net, kindlings), [(2, 2, 3, 2), (2, 2, 4, 2), (2, 3, 1, 0), (2, 3, 5, 0)])

    def test_in_the_order_of_beats_then_lamps_then_flames(self):
        net = ((9, None), (9, None))
        kindlings = [(5, 1), (4, 1), (5, 0), (4, 0), (3, 1), (3, 0), (5, 1)]
        self.assertEqual(self.losses(net, kindlings), [
            (4, 0, 3, 5), (4, 1, 1, 4), (5, 0, 2, 5), (5, 1, 0, 4), (5, 1, 6, 4)])

    def test_lost_at_the_beat_at_which_the_lamp_goes_dark_and_one_beat_sooner(self):
        net = ((3, 1), (3, None))
        self.assertEqual(self.losses(net, [(0, 0), (0, 1)]), [])
        self.assertEqual(self.losses(net, [(0, 0), (1, 1)]), [(3, 1, 0, 1)])
        self.assertEqual(self.losses(net, [(3, 1), (0, 1)]), [])
        self.assertEqual(self.losses(net, [(2, 1), (0, 1)]), [(2, 1, 0, 1)])
        # It is dark by then, and a third one that comes to it at that beat is lost to the one that lights it anew.
        self.assertEqual(self.losses(net, [(0, 0), (0, 1), (3, 1)]), [(3, 1, 2, 0)])

    def test_the_beat_at_which_the_lamp_goes_dark_on_a_ring(self):
        net = ((3, 1), (4, 0))
        for gap, lost in ((3, []), (4, []), (2, [(2, 0, 1, 0)]), (1, [(1, 0, 1, 0)])):
            told = self.losses(net, [(0, 0), (gap, 0)])
            self.assertEqual([row for row in told if row[1] == 0][:1], lost)
        self.assertEqual(self.losses(net, [(0, 0), (3, 0)]), [(6, 1, 1, 0)])
        self.assertEqual(self.losses(net, [(0, 0), (4, 0)]), [(10, 1, 0, 1)])
        self.assertEqual(self.losses(((3, 1), (3, 0)), [(0, 0), (3, 0)]), [])

    def test_who_is_lost_robs_nobody_from_then_on(self):
        # Alone the flame 1 would burn lamp 2 from 2 on, but it is lost at lamp 1 at 1.
        net = ((1, 1), (1, 2), (9, None), (1, 2))
        self.assertEqual(self.losses(net, [(1, 1), (0, 0), (3, 2)]), [(1, 1, 1, 0), (3, 2, 2, 0)])
        self.assertEqual(self.losses(net, [(0, 1), (0, 0), (3, 2)]), [(2, 2, 1, 0), (3, 2, 2, 0)])
        self.assertEqual(self.losses(((1, 1), (5, 2), (9, None)), [(0, 0), (0, 1), (6, 2)]), [
            (1, 1, 0, 1), (6, 2, 2, 1)])
        self.assertEqual(self.losses(((1, 1), (5, 2), (9, None)), [(0, 0), (0, 1), (7, 2), (5, 2)]), [
            (1, 1, 0, 1), (5, 2, 3, 1), (7, 2, 2, 1)])

    def test_a_ring_round_to_the_flame_that_came_later(self):
        net = ((5, 1), (1, 0))
        self.assertEqual(self.losses(net, [(0, 0), (5, 0)]), [(6, 0, 0, 1)])
        self.assertEqual(self.losses(net, [(0, 0), (6000005, 0)]), [(6000006, 0, 0, 1)])
        self.assertEqual(self.losses(net, [(0, 0), (6000004, 0)]), [(6000004, 0, 1, 0)])

    def test_those_of_the_walk(self):
        for net, kindlings, rows, _ in CASES:
            self.assertEqual(self.losses(net, kindlings), losses_of_walk(rows))

    def test_all_lengths_and_beats_many_times_as_great(self):
        for net, kindlings, rows, _ in CASES[::3]:
            for factor in (2, 1000, 10 ** 58):
                told = [(beat * factor, lamp, flame, other) for beat, lamp, flame, other in losses_of_walk(rows)]
                self.assertEqual(losses(*times(net, kindlings, factor)), told)

    def test_all_kindlings_much_later(self):
        for net, kindlings, rows, _ in CASES[::3]:
            for beats in (1, 400, 10 ** 59):
                told = [(beat + beats, lamp, flame, other) for beat, lamp, flame, other in losses_of_walk(rows)]
                self.assertEqual(losses(net, later(kindlings, beats)), told)

    def test_one_kindling_whole_laps_later(self):
        # A second flame onto the ring is lost, or robs, the same way whichever lap it comes in.
        dice = random.Random(35)
        for net, _ in some_cases_in_any_order(36, 200):
            one, other = [(dice.randint(0, 9), dice.randrange(len(net))) for _ in range(2)]
            lap = lap_of(net, one[1])
            if lap is None or any(at in way_of(net, other[1])[0] for at in way_of(net, one[1])[0]):
                continue
            near, far = 100 * lap[0], 10 ** 57 * lap[0]
            told = losses(net, [one, (other[0] + near, other[1])])
            self.assertEqual(losses(net, [one, (other[0] + near + far, other[1])]), [
                (row[0] + far,) + row[1:] for row in told])

    def test_forty_flames_with_numbers_of_sixty_figures(self):
        dice = random.Random(37)
        for _ in range(5):
            net = tuple((dice.randint(1, SIXTY_FIGURES), dice.choice([*range(12), None])) for _ in range(12))
            kindlings = [(dice.randint(0, SIXTY_FIGURES), dice.randrange(12)) for _ in range(40)]
            told = losses(net, kindlings)
            self.assertEqual(told, sorted(told))
            self.assertEqual(len({row[2] for row in told}), len(told))

    def test_kinds_of_what_is_told(self):
        told = losses(NET, KINDLINGS)
        self.assertIsInstance(told, list)
        self.assertEqual({type(row) for row in told}, {tuple})
        self.assertEqual({type(part) for row in told for part in row}, {int})

    def test_a_new_list(self):
        told, again = losses(NET, KINDLINGS), losses(NET, KINDLINGS)
        told.clear()
        self.assertEqual(losses(NET, KINDLINGS), again)

    def test_refusals(self):
        self.refuses_in_order(losses, [
            ("net", NET, bad_nets(), NoNet), ("kindlings", KINDLINGS, bad_kindlings(NET), NoKindlings)])


class BurningTest(LawTest):
    def burning(self, net, kindlings, beat):
        return self.both_ways(burning_at, net=net, kindlings=kindlings, beat=beat)

    def test_nothing(self):
        self.assertEqual(self.burning(NET, [], 0), [None] * 4)
        self.assertEqual(self.burning(NET, [], SIXTY_FIGURES), [None] * 4)
        self.assertEqual(self.burning(NET, [(4, 0)], 3), [None] * 4)

    def test_what_burns(self):
        self.assertEqual(self.burning(NET, KINDLINGS, 0), [(0, 0), (1, 0), None, None])
        self.assertEqual(self.burning(NET, KINDLINGS, 1), [(0, 1), (1, 1), (2, 0), None])
        self.assertEqual(self.burning(NET, KINDLINGS, 2), [None, (1, 2), (2, 1), (3, 0)])
        self.assertEqual(self.burning(NET, KINDLINGS, 3), [(1, 0), None, (2, 2), (3, 1)])
        self.assertEqual(self.burning(NET, KINDLINGS, 5), [None, (1, 0), None, (3, 3)])
        self.assertEqual(self.burning(NET, KINDLINGS, 7), [None, (1, 2), None, None])

    def test_a_lost_one_burns_nowhere_from_the_beat_of_its_loss_on(self):
        net, kindlings = ((2, 1), (5, None)), [(0, 0), (0, 1)]
        self.assertEqual(self.burning(net, kindlings, 1), [(0, 1), (1, 1)])
        self.assertEqual(self.burning(net, kindlings, 2), [None, (1, 2)])
        self.assertEqual(self.burning(net, kindlings, 5), [None, None])
        self.assertEqual(self.burning(net, [(0, 1), (3, 1)], 3), [None, (0, 3)])

    def test_each_beat_of_the_walk(self):
        for net, kindlings, _, pictures in CASES:
            for beat in list(range(60)) + list(range(60, HORIZON, 17)):
                self.assertEqual(burning_at(net, kindlings, beat), pictures[beat])

    def test_far_beats(self):
        for net, kindlings, _, pictures in CASES[::2]:
            laps = [lap_of(net, lamp) for lamp in range(len(net))]
            round_beats = math.lcm(*[lap[0] for lap in laps if lap is not None])
            for beat in range(HORIZON - 60, HORIZON, 7):
                for rounds in (1, 13, 10 ** 55):
                    self.assertEqual(self.burning(net, kindlings, beat + rounds * round_beats), pictures[beat])

    def test_all_lengths_and_beats_many_times_as_great(self):
        for net, kindlings, _, pictures in CASES[::7]:
            for beat in range(0, 60, 3):
                told = [None if part is None else (part[0], part[1] * 10 ** 50 + 7) for part in pictures[beat]]
                self.assertEqual(burning_at(*times(net, kindlings, 10 ** 50), beat * 10 ** 50 + 7), told)

    def test_all_kindlings_much_later(self):
        for net, kindlings, _, pictures in CASES[::7]:
            for beat in range(0, 60, 3):
                told = burning_at(net, later(kindlings, 10 ** 59), 10 ** 59 + beat)
                self.assertEqual(told, pictures[beat])
            self.assertEqual(burning_at(net, later(kindlings, 10 ** 59), 10 ** 59 - 1), [None] * len(net))

    def test_kinds_of_what_is_told(self):
        told = burning_at(NET, KINDLINGS, 1)
        self.assertIsInstance(told, list)
        self.assertEqual({type(part) for part in told}, {tuple, type(None)})

    def test_a_new_list(self):
        told, again = burning_at(NET, KINDLINGS, 1), burning_at(NET, KINDLINGS, 1)
        told.clear()
        self.assertEqual(burning_at(NET, KINDLINGS, 1), again)

    def test_refusals(self):
        self.refuses_in_order(burning_at, [
            ("net", NET, bad_nets(), NoNet), ("kindlings", KINDLINGS, bad_kindlings(NET), NoKindlings),
            ("beat", 3, bad_beats(), NoBeat)])


class LightingsTest(LawTest):
    def lightings(self, net, kindlings, lamp, first, **count):
        told = lightings(net, kindlings, lamp, first, **count)
        self.assertEqual(told, lightings(net=net, kindlings=kindlings, lamp=lamp, first=first, **count))
        return told

    def test_left_out_the_count_is_ten(self):
        told = self.lightings(((3, 0),), [(2, 0)], 0, 0)
        self.assertEqual(told, [(2 + 3 * at, 0) for at in range(10)])
        self.assertEqual(told, self.lightings(((3, 0),), [(2, 0)], 0, 0, count=10))

    def test_counts(self):
        for count in (0, 1, 2, 9, 10, 11, 99, 100):
            told = self.lightings(((3, 0),), [(2, 0)], 0, 4, count=count)
            self.assertEqual(told, [(5 + 3 * at, 0) for at in range(count)])

    def test_a_count_by_place_is_not_taken(self):
        with self.assertRaises(TypeError):
            lightings(NET, KINDLINGS, 0, 0, 5)

    def test_from_the_first_beat_on(self):
        for first, told in ((0, [(4, 0)]), (3, [(4, 0)]), (4, [(4, 0)]), (5, []), (6, []), (SIXTY_FIGURES, [])):
            self.assertEqual(self.lightings(((3, None),), [(4, 0)], 0, first), told)
            self.assertEqual(self.lightings(((3, None),), [(4, 0)], 0, first, count=0), [])
        for first, beat in ((0, 4), (4, 4), (5, 7), (6, 7), (7, 7), (8, 10)):
            self.assertEqual(self.lightings(((3, 0),), [(4, 0)], 0, first, count=2), [(beat, 0), (beat + 3, 0)])

    def test_fewer_where_there_are_no_more(self):
        net = ((3, 1), (2, None))
        kindlings = [(0, 0), (5, 0), (7, 1), (9, 0)]
        self.assertEqual(self.lightings(net, kindlings, 0, 0), [(0, 0), (5, 1), (9, 3)])
        self.assertEqual(self.lightings(net, kindlings, 1, 0, count=100), [(3, 0), (7, 2), (12, 3)])
        self.assertEqual(self.lightings(net, kindlings, 1, 4, count=1), [(7, 2)])
        self.assertEqual(self.lightings(net, kindlings, 1, 13), [])
        self.assertEqual(self.lightings(net, [], 1, 0), [])

    def test_a_lost_one_lights_nothing_from_its_loss_on(self):
        net, kindlings = ((5, 1), (1, 0)), [(0, 0), (12, 1), (50, 0)]
        self.assertEqual(losses(net, kindlings), [(13, 0, 1, 0), (50, 0, 2, 0)])
        self.assertEqual(self.lightings(net, kindlings, 1, 0, count=4), [(5, 0), (11, 0), (12, 1), (17, 0)])
        net, kindlings = ((5, 1), (1, 0)), [(0, 0), (17, 0)]
        self.assertEqual(losses(net, kindlings), [(18, 0, 0, 1)])
        self.assertEqual(self.lightings(net, kindlings, 0, 0, count=6), [
            (0, 0), (6, 0), (12, 0), (17, 1), (23, 1), (29, 1)])

    def test_several_flames_of_a_ring(self):
        net, kindlings = ((2, 1), (2, 0)), [(2, 0), (0, 0)]
        self.assertEqual(self.lightings(net, kindlings, 0, 3, count=4), [(4, 1), (6, 0), (8, 1), (10, 0)])

    def test_those_of_the_walk(self):
        dice = random.Random(38)
        for net, kindlings, rows, _ in CASES:
            for lamp in range(len(net)):
                lit = [(row[1], row[3]) for row in rows if row[0] == "lit" and row[2] == lamp]
                for first in (0, dice.randint(0, 60), dice.randint(0, 60)):
                    told = [part for part in lit if part[0] >= first][:100]
                    # On a ring there are more than the walk has come to, if there are any.
                    count = 100 if lap_of(net, lamp) is None or not told else len(told)
                    self.assertEqual(self.lightings(net, kindlings, lamp, first, count=count), told)

    def test_far_beats(self):
        for net, kindlings, rows, _ in CASES[::3]:
            for lamp in range(len(net)):
                lap = lap_of(net, lamp)
                far = 0 if lap is None else 10 ** 57 * lap[0]
                first = HORIZON - 60
                lit = [(row[1], row[3]) for row in rows if row[0] == "lit" and row[2] == lamp and row[1] >= first]
                told = self.lightings(net, kindlings, lamp, far + first, count=len(lit))
                self.assertEqual(told, [(beat + far, flame) for beat, flame in lit])

    def test_all_lengths_and_beats_many_times_as_great(self):
        for net, kindlings, rows, _ in CASES[::7]:
            for lamp in range(len(net)):
                lit = [(row[1] * 10 ** 57, row[3]) for row in rows if row[0] == "lit" and row[2] == lamp]
                told = lightings(*times(net, kindlings, 10 ** 57), lamp, 0, count=min(100, len(lit)))
                self.assertEqual(told, lit[:100])

    def test_kinds_of_what_is_told(self):
        told = lightings(NET, KINDLINGS, 0, 0)
        self.assertIsInstance(told, list)
        self.assertEqual({type(part) for part in told}, {tuple})

    def test_a_new_list(self):
        told, again = lightings(NET, KINDLINGS, 0, 0), lightings(NET, KINDLINGS, 0, 0)
        told.clear()
        self.assertEqual(lightings(NET, KINDLINGS, 0, 0), again)

    def test_refusals(self):
        self.refuses_in_order(lightings, [
            ("net", NET, bad_nets(), NoNet), ("kindlings", KINDLINGS, bad_kindlings(NET), NoKindlings),
            ("lamp", 1, bad_numbers(len(NET)), NoLamp), ("first", 3, bad_beats(), NoBeat),
            ("count", 5, BAD_COUNTS, NoNumber)], starred=("count",))
        self.refuses(NoNumber, lightings, NET, KINDLINGS, 0, 0, count=101)
        self.refuses(NoNumber, lightings, NET, [], 0, 0, count=-1)


class WholeTest(LawTest):
    """What point 4 says of the fates."""

    def test_between_two_losses_each_flame_goes_as_if_alone(self):
        for net, kindlings, _, pictures in CASES:
            lost_at = {row[2]: row[0] for row in losses(net, kindlings)}
            for beat in range(0, 60, 9):
                told = [None] * len(net)
                for flame, kindling in enumerate(kindlings):
                    if lost_at.get(flame, HORIZON) > beat:
                        for lamp, part in enumerate(burning_at(net, [kindling], beat)):
                            if part is not None:
                                told[lamp] = (flame, part[1])
                self.assertEqual(told, pictures[beat])

    def test_two_keep_their_gap_and_the_later_one_is_lost_at_the_first_lamp_that_is_longer(self):
        dice = random.Random(39)
        lost = 0
        for _ in range(400):
            # Each next one is a greater number, so all ways end.
            many = dice.randint(2, 9)
            net = tuple((dice.randint(1, 9), dice.choice([*range(at + 1, many), None])) for at in range(many))
            one, other = sorted((dice.randint(0, 9), dice.randrange(many)) for _ in range(2))
            gap = gap_of(net, one, other)
            if gap is None or gap[1] <= 0:
                continue
            behind = way_of(net, gap[0])[0]
            longer = [lamp for lamp in behind if net[lamp][0] > gap[1]][:1]
            self.assertEqual(losses(net, [one, other]), [
                (lights_alone(net, other, lamp)[0], lamp, 1, 0) for lamp in longer])
            lost += len(longer)
        self.assertGreater(lost, 50)

    def test_on_a_ring_it_is_lost_in_the_first_lap_that_both_go(self):
        dice = random.Random(40)
        for _ in range(300):
            many = dice.randint(1, 6)
            net = tuple((dice.randint(1, 6), (at + 1) % many) for at in range(many))
            lap, longest = lap_of(net, 0)
            gap = dice.randint(1, 3 * lap)
            told = losses(net, [(0, 0), (gap, 0)])
            self.assertEqual(bool(told), gap % lap < longest or lap - gap % lap < longest)
            for row in told:
                self.assertLess(row[0], gap + 2 * lap)


if __name__ == "__main__":
    unittest.main()
