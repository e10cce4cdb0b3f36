"""Points 7 and 8, and what point 4 says of the walk: Embers."""

import random
import unittest

from emberlane.embers import Embers
from emberlane.errors import NoBeat, NoLamp, NoNet
from tests.helpers import SIXTY_FIGURES, LawTest, deep, go_through, some_cases, strange_things, walk

BAD_BEATS = strange_things() + [None, 0, 401, 402, 4000, -1, -400, SIXTY_FIGURES, -SIXTY_FIGURES]
HORIZON = 80


def state(embers):
    return (embers.coming(), embers.burning(), embers.happened())


def kindled(net, *lamps):
    """An Embers ahead of beat 0, with these lamps kindled."""
    embers = Embers(net)
    for lamp in lamps:
        embers.kindle(lamp)
    return embers


class OneFlameTest(LawTest):
    def test_a_flame_that_ends(self):
        embers = kindled(((3, None),), 0)
        self.assertEqual(embers.go(), [("lit", 0, 0, 0)])
        self.assertEqual(embers.burning(), [(0, 0)])
        self.assertEqual(embers.go(), [])
        self.assertEqual(embers.burning(), [(0, 1)])
        self.assertEqual(embers.go(), [])
        self.assertEqual(embers.burning(), [(0, 2)])
        self.assertEqual(embers.go(), [("ended", 3, 0, 0)])
        self.assertEqual(embers.burning(), [None])
        self.assertEqual(embers.go(beats=50), [])
        self.assertEqual(embers.burning(), [None])

    def test_a_flame_that_goes_on(self):
        embers = kindled(((2, 1), (1, 2), (3, None)), 0)
        self.assertEqual(embers.go(beats=10), [
            ("lit", 0, 0, 0), ("lit", 2, 1, 0), ("lit", 3, 2, 0), ("ended", 6, 2, 0)])

    def test_a_flame_that_goes_round(self):
        embers = kindled(((2, 1), (3, 0)), 1)
        self.assertEqual(embers.go(beats=9), [
            ("lit", 0, 1, 0), ("lit", 3, 0, 0), ("lit", 5, 1, 0), ("lit", 8, 0, 0)])
        self.assertEqual(embers.burning(), [(0, 0), None])

    def test_a_lamp_that_is_its_own_next(self):
        embers = kindled(((3, 0),), 0)
        self.assertEqual(embers.go(beats=7), [("lit", 0, 0, 0), ("lit", 3, 0, 0), ("lit", 6, 0, 0)])
        self.assertEqual(embers.burning(), [(0, 0)])
        embers.go(beats=2)
        self.assertEqual(embers.burning(), [(0, 2)])

    def test_a_lamp_of_length_one_that_is_its_own_next(self):
        embers = kindled(((1, 0),), 0)
        self.assertEqual(embers.go(beats=3), [("lit", 0, 0, 0), ("lit", 1, 0, 0), ("lit", 2, 0, 0)])
        self.assertEqual(embers.burning(), [(0, 0)])

    def test_a_length_of_sixty_figures(self):
        embers = kindled(((SIXTY_FIGURES, 0),), 0)
        self.assertEqual(embers.go(beats=400), [("lit", 0, 0, 0)])
        embers.kindle(0)
        self.assertEqual(embers.go(), [("lost", 400, 0, 1, 0)])
        self.assertEqual(embers.burning(), [(0, 400)])

    def test_a_kindling_at_a_later_beat(self):
        embers = Embers(((2, None),))
        embers.go(beats=5)
        self.assertEqual(embers.kindle(0), 0)
        self.assertEqual(embers.burning(), [None])
        self.assertEqual(embers.go(beats=3), [("lit", 5, 0, 0), ("ended", 7, 0, 0)])


class LostTest(LawTest):
    def test_lost_to_a_burning_lamp(self):
        embers = kindled(((1, 1), (5, None)), 0, 1)
        self.assertEqual(embers.go(beats=7), [
            ("lit", 0, 0, 0), ("lit", 0, 1, 1), ("lost", 1, 1, 0, 1), ("ended", 5, 1, 1)])

    def test_a_loss_changes_nothing_of_the_one_that_burns(self):
        embers = kindled(((1, 1), (5, None)), 0, 1)
        embers.go(beats=2)
        self.assertEqual(embers.burning(), [None, (1, 1)])

    def test_lost_even_by_a_lesser_number(self):
        embers = kindled(((3, 1), (2, 1)), 0)
        embers.go(beats=2)
        embers.kindle(1)
        self.assertEqual(embers.go(beats=3), [("lit", 2, 1, 1), ("lost", 3, 1, 0, 1), ("lit", 4, 1, 1)])

    def test_kindlings_of_a_burning_lamp(self):
        embers = kindled(((4, None),), 0)
        embers.go(beats=2)
        self.assertEqual([embers.kindle(0), embers.kindle(0)], [1, 2])
        self.assertEqual(embers.go(), [("lost", 2, 0, 1, 0), ("lost", 2, 0, 2, 0)])
        self.assertEqual(embers.go(beats=3), [("ended", 4, 0, 0)])

    def test_two_kindlings_of_one_lamp_at_one_beat(self):
        embers = kindled(((4, None),), 0, 0)
        self.assertEqual(embers.go(), [("lit", 0, 0, 0), ("lost", 0, 0, 1, 0)])
        self.assertEqual(embers.burning(), [(0, 0)])

    def test_the_least_number_lights_a_dark_lamp_and_the_others_are_lost_to_it(self):
        net = ((3, 3), (2, 3), (1, 3), (4, None))
        embers = Embers(net)
        self.assertEqual(embers.kindle(0), 0)
        embers.go()
        self.assertEqual(embers.kindle(1), 1)
        embers.go()
        self.assertEqual(embers.kindle(2), 2)
        embers.go()
        self.assertEqual(embers.kindle(3), 3)
        self.assertEqual(embers.go(), [
            ("lit", 3, 3, 0), ("lost", 3, 3, 1, 0), ("lost", 3, 3, 2, 0), ("lost", 3, 3, 3, 0)])

    def test_the_least_number_lights_whatever_lamp_it_comes_from(self):
        # Flame 0 comes out of the lamp of the greatest number, flame 2 out of that of the least.
        net = ((1, 2), (1, 2), (1, None), (1, 2))
        embers = kindled(net, 3, 1, 0)
        self.assertEqual(embers.go(beats=2)[3:], [
            ("lit", 1, 2, 0), ("lost", 1, 2, 1, 0), ("lost", 1, 2, 2, 0)])

    def test_a_kindling_is_lost_to_the_flame_that_comes_with_a_lesser_number(self):
        embers = kindled(((2, 1), (3, None)), 0)
        embers.go(beats=2)
        embers.kindle(1)
        self.assertEqual(embers.go(), [("lit", 2, 1, 0), ("lost", 2, 1, 1, 0)])

    def test_lost_ones_by_their_numbers_ahead_of_where_they_come_from(self):
        net = ((9, None), (1, 0), (1, 0), (1, 0))
        embers = kindled(net, 0, 3, 2, 1)
        embers.go()
        embers.kindle(0)
        self.assertEqual(embers.go(), [("lost", 1, 0, flame, 0) for flame in (1, 2, 3, 4)])


class DarkAtThisBeatTest(LawTest):
    def test_a_lamp_that_goes_dark_just_as_a_flame_comes(self):
        embers = kindled(((3, 1), (3, None)), 0, 1)
        self.assertEqual(embers.go(beats=4), [
            ("lit", 0, 0, 0), ("lit", 0, 1, 1), ("ended", 3, 1, 1), ("lit", 3, 1, 0)])

    def test_one_beat_ahead_of_that_the_flame_is_lost(self):
        embers = kindled(((2, 1), (3, None)), 0, 1)
        self.assertEqual(embers.go(beats=4), [
            ("lit", 0, 0, 0), ("lit", 0, 1, 1), ("lost", 2, 1, 0, 1), ("ended", 3, 1, 1)])

    def test_whether_the_lamp_stands_ahead_of_the_other_or_behind_it(self):
        embers = kindled(((3, None), (3, 0)), 0, 1)
        self.assertEqual(embers.go(beats=4)[2:], [("ended", 3, 0, 0), ("lit", 3, 0, 1)])

    def test_a_kindling_just_as_a_lamp_goes_dark(self):
        embers = kindled(((3, None),), 0)
        embers.go(beats=3)
        embers.kindle(0)
        self.assertEqual(embers.go(), [("ended", 3, 0, 0), ("lit", 3, 0, 1)])

    def test_all_flames_of_a_ring_go_on_at_one_beat(self):
        embers = kindled(((2, 1), (2, 2), (2, 0)), 0, 1, 2)
        self.assertEqual(embers.go(beats=3)[3:], [("lit", 2, 0, 2), ("lit", 2, 1, 0), ("lit", 2, 2, 1)])

    def test_a_lamp_that_is_its_own_next_is_taken_by_a_lesser_number(self):
        embers = kindled(((2, 1), (2, 1)), 0, 1)
        self.assertEqual(embers.go(beats=3)[2:], [("lit", 2, 1, 0), ("lost", 2, 1, 1, 0)])

    def test_a_lamp_that_is_its_own_next_keeps_off_a_greater_number(self):
        embers = kindled(((2, 1), (2, 1)), 1, 0)
        self.assertEqual(embers.go(beats=3)[2:], [("lit", 2, 1, 0), ("lost", 2, 1, 1, 0)])


class OrderTest(LawTest):
    def test_ended_ones_first_by_lamps_then_what_came_by_lamps(self):
        net = ((2, None), (2, 3), (2, None), (1, None), (1, 4), (2, None))
        embers = kindled(net, 5, 4, 2, 1, 0, 0)
        self.assertEqual(embers.go(), [
            ("lit", 0, 0, 4), ("lost", 0, 0, 5, 4), ("lit", 0, 1, 3), ("lit", 0, 2, 2), ("lit", 0, 4, 1),
            ("lit", 0, 5, 0)])
        self.assertEqual(embers.go(), [("lit", 1, 4, 1)])
        self.assertEqual([embers.kindle(4), embers.kindle(3), embers.kindle(1)], [6, 7, 8])
        self.assertEqual(embers.go(), [
            ("ended", 2, 0, 4), ("ended", 2, 2, 2), ("ended", 2, 5, 0), ("lit", 2, 1, 8),
            ("lit", 2, 3, 3), ("lost", 2, 3, 7, 3), ("lit", 2, 4, 1), ("lost", 2, 4, 6, 1)])

    def test_numbers_as_kindle_tells_them(self):
        embers = Embers(((1, None), (1, 0)))
        self.assertEqual([embers.kindle(1), embers.kindle(0), embers.kindle(1)], [0, 1, 2])
        embers.go()
        self.assertEqual([embers.kindle(0), embers.kindle(0)], [3, 4])
        embers.go(beats=7)
        self.assertEqual([embers.kindle(1) for _ in range(3)], [5, 6, 7])

    def test_numbers_of_three_hundred_kindlings(self):
        embers = Embers(((1, None),))
        self.assertEqual([embers.kindle(0) for _ in range(299)], list(range(299)))
        self.assertEqual(embers.go(), [("lit", 0, 0, 0)] + [("lost", 0, 0, flame, 0) for flame in range(1, 299)])


class GoTest(LawTest):
    NET = ((3, 1), (4, 2), (2, 0), (5, 1))

    def test_left_out_is_one_beat(self):
        one, other = kindled(self.NET, 0), kindled(self.NET, 0)
        for beat in range(12):
            self.assertEqual(one.go(), other.go(beats=1))
            self.assertEqual(one.coming(), beat + 1)
            self.assertEqual(state(one), state(other))

    def test_several_beats_tell_the_same_as_one_by_one(self):
        for beats in (1, 2, 3, 7, 30, 399, 400):
            one, other = kindled(self.NET, 3, 0, 2), kindled(self.NET, 3, 0, 2)
            rows = []
            for _ in range(beats):
                rows += one.go()
            self.assertEqual(other.go(beats=beats), rows)
            self.assertEqual(state(one), state(other))
            self.assertEqual(one.coming(), beats)

    def test_four_hundred(self):
        embers = kindled(((150, 0),), 0)
        self.assertEqual(embers.go(beats=400), [("lit", 0, 0, 0), ("lit", 150, 0, 0), ("lit", 300, 0, 0)])
        self.assertEqual(embers.coming(), 400)
        self.assertEqual(embers.burning(), [(0, 99)])

    def test_four_thousand_beats(self):
        embers = kindled(((7, 1), (4, 0)), 0)
        for _ in range(10):
            embers.go(beats=400)
        self.assertEqual(embers.coming(), 4000)
        rows = []
        for beat in range(4000):
            if beat % 11 in (0, 7):
                rows.append(("lit", beat, 0 if beat % 11 == 0 else 1, 0))
        self.assertEqual(embers.happened(), rows)
        self.assertEqual(embers.burning(), [(0, 3999 % 11), None])

    def test_only_the_rows_of_this_going_are_told(self):
        embers = kindled(self.NET, 0)
        self.assertEqual(embers.go(beats=3), [("lit", 0, 0, 0)])
        self.assertEqual(embers.go(beats=4), [("lit", 3, 1, 0)])
        self.assertEqual(embers.happened(), [("lit", 0, 0, 0), ("lit", 3, 1, 0)])

    def test_by_name_alone(self):
        embers = kindled(self.NET, 0)
        with self.assertRaises(TypeError):
            embers.go(2)
        self.assertEqual(state(embers), (0, [None] * 4, []))

    def test_no_beat(self):
        for fresh in (True, False):
            embers = kindled(self.NET, 0)
            if not fresh:
                embers.go(beats=5)
                embers.kindle(2)
            was = state(embers)
            for beats in BAD_BEATS:
                self.refuses(NoBeat, embers.go, beats=beats)
                self.assertEqual(state(embers), was)


class AskedTest(LawTest):
    NET = ((2, 1), (1, None))

    def test_ahead_of_all_beats(self):
        embers = Embers(self.NET)
        self.assertEqual(state(embers), (0, [None, None], []))
        embers.kindle(0)
        self.assertEqual(state(embers), (0, [None, None], []))

    def test_behind_each_going(self):
        embers = kindled(self.NET, 0)
        rows = [("lit", 0, 0, 0), ("lit", 2, 1, 0), ("ended", 3, 1, 0)]
        embers.go()
        self.assertEqual(state(embers), (1, [(0, 0), None], rows[:1]))
        embers.go()
        self.assertEqual(state(embers), (2, [(0, 1), None], rows[:1]))
        embers.go()
        self.assertEqual(state(embers), (3, [None, (0, 0)], rows[:2]))
        embers.go()
        self.assertEqual(state(embers), (4, [None, None], rows))

    def test_a_kindling_shows_with_the_next_going_only(self):
        embers = Embers(self.NET)
        embers.go(beats=2)
        embers.kindle(1)
        self.assertEqual(state(embers), (2, [None, None], []))
        embers.go()
        self.assertEqual(state(embers), (3, [None, (0, 0)], [("lit", 2, 1, 0)]))

    def test_kinds_of_what_is_told(self):
        embers = kindled(self.NET, 0)
        for told in (embers.go(), embers.burning(), embers.happened()):
            self.assertIsInstance(told, list)
        self.assertEqual([type(row) for row in embers.happened()], [tuple])
        self.assertIsInstance(embers.burning()[0], tuple)

    def test_a_net_and_a_lamp_by_name(self):
        one, other = Embers(self.NET), Embers(net=self.NET)
        self.assertEqual(one.kindle(1), other.kindle(lamp=1))
        self.assertEqual(one.go(beats=3), other.go(beats=3))


class RefusedTest(LawTest):
    NET = ((2, 1), (3, 0), (1, None))

    def test_no_net(self):
        for net in strange_things() + [None, (), [(1, None)], ((1, None),) * 13, ((0, None),), ((1, 1),), ([1, 0],)]:
            self.refuses_both_ways(NoNet, Embers, net=net)

    def test_no_lamp(self):
        embers = kindled(self.NET, 1)
        embers.go(beats=2)
        was = state(embers)
        for lamp in strange_things() + [None, -1, -3, 3, 4, SIXTY_FIGURES, -SIXTY_FIGURES, deep(list)]:
            self.refuses_both_ways(NoLamp, embers.kindle, lamp=lamp)
            self.assertEqual(state(embers), was)

    def test_what_is_refused_changes_nothing_of_what_comes(self):
        embers, plain = kindled(self.NET, 1), kindled(self.NET, 1)
        for _ in range(6):
            self.refuses(NoLamp, embers.kindle, 3)
            self.refuses(NoBeat, embers.go, beats=0)
            self.assertEqual(embers.kindle(0), plain.kindle(0))
            self.refuses(NoLamp, embers.kindle, True)
            self.refuses(NoBeat, embers.go, beats=True)
            self.assertEqual(embers.go(), plain.go())
        self.assertEqual(state(embers), state(plain))


class AskersOwnTest(LawTest):
    NET = ((2, 1), (3, 0))

    def test_told_lists_that_are_changed_change_nothing(self):
        embers, plain = kindled(self.NET, 0), kindled(self.NET, 0)
        for _ in range(8):
            told = embers.go()
            self.assertEqual(told, plain.go())
            for asked in (told, embers.burning(), embers.happened()):
                asked.append("more")
                asked[0] = "other"
            embers.happened().clear()
            embers.burning().clear()
            self.assertEqual(state(embers), state(plain))

    def test_what_is_done_later_changes_no_told_list(self):
        embers = kindled(self.NET, 0)
        told = embers.go()
        burning, happened = embers.burning(), embers.happened()
        embers.kindle(1)
        embers.go(beats=9)
        self.assertEqual(told, [("lit", 0, 0, 0)])
        self.assertEqual(burning, [(0, 0), None])
        self.assertEqual(happened, [("lit", 0, 0, 0)])

    def test_each_asking_tells_a_new_list(self):
        embers = kindled(self.NET, 0)
        embers.go()
        self.assertIsNot(embers.happened(), embers.happened())
        self.assertIsNot(embers.burning(), embers.burning())

    def test_two_embers_do_not_touch_one_another(self):
        one, other = Embers(self.NET), Embers(self.NET)
        self.assertEqual([one.kindle(0), one.kindle(1), other.kindle(1)], [0, 1, 0])
        one.go(beats=5)
        self.assertEqual(state(other), (0, [None, None], []))
        self.assertEqual(other.go(), [("lit", 0, 1, 0)])
        self.assertEqual(state(other), (1, [None, (0, 0)], [("lit", 0, 1, 0)]))
        self.assertEqual(one.coming(), 5)


class WholeTest(LawTest):
    """The walk against a second one, and what point 4 says of it."""

    CASES = some_cases(4, 300)

    def test_the_rows_and_what_burns_at_each_beat(self):
        for net, kindlings in self.CASES:
            rows, pictures = walk(net, kindlings, HORIZON)
            embers = Embers(net)
            told, waiting = [], list(kindlings)
            for beat in range(HORIZON):
                while waiting and waiting[0][0] == beat:
                    self.assertEqual(embers.kindle(waiting.pop(0)[1]), len(kindlings) - len(waiting) - 1)
                told += embers.go()
                self.assertEqual(embers.burning(), pictures[beat])
            self.assertEqual(told, rows)
            self.assertEqual(embers.happened(), rows)

    def test_goings_of_any_size(self):
        dice = random.Random(8)
        for net, kindlings in self.CASES[:100]:
            many = len(kindlings)
            embers, plain = Embers(net), Embers(net)
            for _, lamp in kindlings:
                beats = dice.randint(1, 9)
                self.assertEqual(embers.kindle(lamp), plain.kindle(lamp))
                rows = []
                for _ in range(beats):
                    rows += plain.go()
                self.assertEqual(embers.go(beats=beats), rows)
                self.assertEqual(state(embers), state(plain))
            self.assertEqual(embers.kindle(0), many)

    def test_between_two_losses_each_flame_goes_as_if_alone(self):
        for net, kindlings in self.CASES:
            rows = go_through(net, kindlings, HORIZON).happened()
            for flame, kindling in enumerate(kindlings):
                lost = [row for row in rows if row[0] == "lost" and row[3] == flame]
                till = lost[0][1] if lost else HORIZON
                alone = go_through(net, [kindling], HORIZON).happened()
                self.assertEqual(
                    [row[:3] for row in rows if row[0] != "lost" and row[3] == flame],
                    [row[:3] for row in alone if row[1] < till])
                self.assertLessEqual(len(lost), 1)

    def test_who_robs_nobody_may_be_left_out(self):
        for net, kindlings in self.CASES:
            rows = go_through(net, kindlings, HORIZON).happened()
            robbers = {row[4] for row in rows if row[0] == "lost"}
            kept = [flame for flame in range(len(kindlings)) if flame in robbers]
            told = go_through(net, [kindlings[flame] for flame in kept], HORIZON).happened()
            anew = {number: flame for number, flame in enumerate(kept)}
            numbered = [row[:3] + tuple(anew[number] for number in row[3:]) for row in told]
            self.assertEqual(numbered, [row for row in rows if row[3] in robbers])

    def test_there_are_losses_endings_and_flames_that_go_in_the_cases(self):
        kinds = {}
        for net, kindlings in self.CASES:
            for row in walk(net, kindlings, HORIZON)[0]:
                kinds[row[0]] = kinds.get(row[0], 0) + 1
        for kind in ("ended", "lit", "lost"):
            self.assertGreater(kinds[kind], 100)


if __name__ == "__main__":
    unittest.main()
