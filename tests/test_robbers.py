"""Points 14 and 15, and what point 4 says of them: who robs whom, and kindlings with flames left out."""

import random
import unittest

from emberlane.errors import NoFlame, NoKindlings, NoNet
from emberlane.fates import burning_at, fates, losses
from emberlane.robbers import idle, lasting, robbed, root_of, without
from tests.helpers import (
    SIXTY_FIGURES, LawTest, bad_kindlings, bad_nets, bad_numbers, later, losses_of_walk, some_cases_in_any_order,
    strange_things, times, walk)

NET = ((2, 1), (3, 2), (9, None))
# Flame 3 robs 0 and 4 at lamp 2, and 0 has robbed 1 ahead of that; 2 comes when all is dark.
KINDLINGS = [(0, 0), (1, 0), (30, 0), (3, 2), (4, 2)]

CASES = some_cases_in_any_order(61, 200, 7, 12)

HALF = SIXTY_FIGURES // 2


def row_of_robbers(many, length=2):
    """A net and so many kindlings: each flame is lost to the next one, the last one goes on.

    Two lamps of the even length kindle one another; each flame comes to the other lamp half a length behind the next.
    """
    half = length // 2
    return ((length, 1), (length, 0)), [(at * half, at % 2) for at in range(many)]


def anew(fate, kept):
    """A fate with its other one told by the new numbers of the kept flames."""
    return fate[:3] + (kept.index(fate[3]),) if fate[0] == "lost" else fate


class RobbedTest(LawTest):
    def robbed(self, net, kindlings):
        return self.both_ways(robbed, net=net, kindlings=kindlings)

    def test_nobody_lost(self):
        self.assertEqual(self.robbed(NET, []), [])
        self.assertEqual(self.robbed(NET, [(0, 0)]), [[]])
        self.assertEqual(self.robbed(NET, [(0, 0), (20, 0), (40, 0)]), [[], [], []])

    def test_several_lost_to_one(self):
        self.assertEqual(self.robbed(NET, KINDLINGS), [[1], [], [], [0, 4], []])
        self.assertEqual(self.robbed(((50, None),), [(at, 0) for at in range(40)]), [list(range(1, 40))] + [[]] * 39)
        self.assertEqual(self.robbed(((50, None),), [(40 - at, 0) for at in range(40)]), [[]] * 39 + [
            list(range(39))])

    def test_rising_and_not_by_beats(self):
        self.assertEqual(self.robbed(((9, None),), [(5, 0), (3, 0), (4, 0), (0, 0)]), [[], [], [], [0, 1, 2]])

    def test_a_row_of_flames_each_lost_to_the_next(self):
        for many in (2, 3, 39, 40):
            net, kindlings = row_of_robbers(many)
            self.assertEqual(self.robbed(net, kindlings), [[]] + [[flame] for flame in range(many - 1)])
            self.assertEqual(self.robbed(net, kindlings[::-1]), [[flame] for flame in range(1, many)] + [[]])

    def test_those_of_the_walk(self):
        for net, kindlings in CASES:
            rows = losses_of_walk(walk(net, kindlings, 200)[0])
            self.assertEqual(self.robbed(net, kindlings), [
                sorted(row[2] for row in rows if row[3] == flame) for flame in range(len(kindlings))])

    def test_lists_that_are_the_askers_own(self):
        net, kindlings = NET, [(0, 0), (20, 0), (40, 0)]
        told = robbed(net, kindlings)
        self.assertEqual({type(flames) for flames in told}, {list})
        self.assertIsInstance(told, list)
        told[0].append(1)
        self.assertEqual(told, [[1], [], []])
        told.clear()
        self.assertEqual(robbed(net, kindlings), [[], [], []])

    def test_refusals(self):
        self.refuses_in_order(robbed, [
            ("net", NET, bad_nets(), NoNet), ("kindlings", KINDLINGS, bad_kindlings(NET), NoKindlings)])


class RootTest(LawTest):
    def root(self, net, kindlings, flame):
        return self.both_ways(root_of, net=net, kindlings=kindlings, flame=flame)

    def roots(self, net, kindlings):
        return [self.root(net, kindlings, flame) for flame in range(len(kindlings))]

    def test_itself_if_it_is_never_lost(self):
        self.assertEqual(self.roots(NET, [(0, 0), (20, 0), (40, 0)]), [0, 1, 2])

    def test_the_root_of_the_one_to_which_it_is_lost(self):
        self.assertEqual(self.roots(NET, KINDLINGS), [3, 3, 2, 3, 3])

    def test_a_row_of_flames_each_lost_to_the_next(self):
        for many in (1, 2, 3, 39, 40):
            net, kindlings = row_of_robbers(many)
            self.assertEqual(self.roots(net, kindlings), [many - 1] * many)
            self.assertEqual(self.roots(net, kindlings[::-1]), [0] * many)

    def test_a_row_of_flames_with_numbers_of_sixty_figures(self):
        net, kindlings = row_of_robbers(40, 10 ** 58)
        self.assertEqual(self.roots(net, kindlings), [39] * 40)

    def test_by_the_losses(self):
        for net, kindlings in CASES:
            lost_to = {row[2]: row[3] for row in losses(net, kindlings)}
            for flame, root in enumerate(self.roots(net, kindlings)):
                self.assertNotIn(root, lost_to)
                self.assertEqual(root, self.root(net, kindlings, lost_to.get(flame, flame)))

    def test_refusals(self):
        self.refuses_in_order(root_of, [
            ("net", NET, bad_nets(), NoNet), ("kindlings", KINDLINGS, bad_kindlings(NET), NoKindlings),
            ("flame", 0, bad_numbers(len(KINDLINGS)), NoFlame)])

    def test_without_kindlings_there_is_no_flame(self):
        for flame in (0, -1, None):
            self.refuses_both_ways(NoFlame, root_of, net=NET, kindlings=[], flame=flame)


class IdleTest(LawTest):
    def idle(self, net, kindlings):
        return self.both_ways(idle, net=net, kindlings=kindlings)

    def test_those_to_whom_none_is_lost(self):
        self.assertEqual(self.idle(NET, []), [])
        self.assertEqual(self.idle(NET, [(0, 0), (20, 0), (40, 0)]), [0, 1, 2])
        self.assertEqual(self.idle(NET, KINDLINGS), [1, 2, 4])

    def test_of_a_row_of_flames_the_first_one(self):
        net, kindlings = row_of_robbers(40)
        self.assertEqual(self.idle(net, kindlings), [0])
        self.assertEqual(self.idle(net, kindlings[::-1]), [39])

    def test_by_the_losses(self):
        for net, kindlings in CASES:
            robbers = {row[3] for row in losses(net, kindlings)}
            self.assertEqual(self.idle(net, kindlings), [
                flame for flame in range(len(kindlings)) if flame not in robbers])

    def test_a_new_list(self):
        told = idle(NET, KINDLINGS)
        self.assertIsInstance(told, list)
        told.clear()
        self.assertEqual(idle(NET, KINDLINGS), [1, 2, 4])

    def test_refusals(self):
        self.refuses_in_order(idle, [
            ("net", NET, bad_nets(), NoNet), ("kindlings", KINDLINGS, bad_kindlings(NET), NoKindlings)])


class WithoutTest(LawTest):
    BAD_FLAMES = [thing for thing in strange_things() if thing not in ([], [0])] + [
        None, 0, (0,), (0, 1), [0, 0], [1, 1, 2], [1, 0], [0, 2, 1], [4, 3], [True], [False], [0, True], [False, 1],
        [5], [0, 5], [-1], [-1, 0], ["0"], [0.0], [None], [(0,)], [[0]], [SIXTY_FIGURES], {0: True}, range(2)]

    def without(self, net, kindlings, flames):
        return self.both_ways(without, net=net, kindlings=kindlings, flames=flames)

    def test_without_none_some_and_all(self):
        self.assertEqual(self.without(NET, KINDLINGS, []), KINDLINGS)
        self.assertEqual(self.without(NET, KINDLINGS, [0]), KINDLINGS[1:])
        self.assertEqual(self.without(NET, KINDLINGS, [4]), KINDLINGS[:4])
        self.assertEqual(self.without(NET, KINDLINGS, [1, 3]), [(0, 0), (30, 0), (4, 2)])
        self.assertEqual(self.without(NET, KINDLINGS, [0, 1, 2, 3, 4]), [])
        self.assertEqual(self.without(NET, [], []), [])

    def test_kindlings_that_stand_there_twice(self):
        self.assertEqual(self.without(NET, [(1, 1), (0, 0), (1, 1)], [0]), [(0, 0), (1, 1)])
        self.assertEqual(self.without(NET, [(1, 1), (0, 0), (1, 1)], [2]), [(1, 1), (0, 0)])

    def test_a_new_list(self):
        kindlings, flames = list(KINDLINGS), []
        told = without(NET, kindlings, flames)
        self.assertIsInstance(told, list)
        self.assertIsNot(told, kindlings)
        told.clear()
        self.assertEqual((kindlings, flames), (KINDLINGS, []))
        told = without(NET, kindlings, [0])
        kindlings.clear()
        self.assertEqual(told, KINDLINGS[1:])

    def test_refusals(self):
        self.refuses_in_order(without, [
            ("net", NET, bad_nets(), NoNet), ("kindlings", KINDLINGS, bad_kindlings(NET), NoKindlings),
            ("flames", [0, 1], self.BAD_FLAMES, NoFlame)])

    def test_without_kindlings_there_are_no_flames(self):
        for flames in ([0], [0, 1], (), None):
            self.refuses_both_ways(NoFlame, without, net=NET, kindlings=[], flames=flames)

    def test_what_is_refused_changes_nothing(self):
        kindlings, flames = list(KINDLINGS), [1, 0]
        self.refuses(NoFlame, without, NET, kindlings, flames)
        self.assertEqual((kindlings, flames), (KINDLINGS, [1, 0]))

    def check_fates(self, net, kindlings, left_out):
        """Without these all others have the fates that they had."""
        kept = [flame for flame in range(len(kindlings)) if flame not in left_out]
        told = fates(net, kindlings)
        self.assertEqual(fates(net, self.without(net, kindlings, left_out)), [anew(told[flame], kept) for flame in kept])

    def test_without_idle_ones_all_others_have_their_fates(self):
        dice = random.Random(62)
        for net, kindlings in CASES:
            found = idle(net, kindlings)
            self.check_fates(net, kindlings, found)
            self.check_fates(net, kindlings, sorted(dice.sample(found, dice.randint(0, len(found)))))
            for flame in found:
                self.check_fates(net, kindlings, [flame])

    def test_without_idle_ones_with_great_numbers(self):
        for net, kindlings in CASES[::4]:
            greater = times(net, later(kindlings, 5), 10 ** 56)
            self.check_fates(*greater, idle(*greater))


class LastingTest(LawTest):
    def lasting(self, net, kindlings):
        return self.both_ways(lasting, net=net, kindlings=kindlings)

    def test_those_that_are_never_lost_in_their_order(self):
        self.assertEqual(self.lasting(NET, []), [])
        self.assertEqual(self.lasting(NET, KINDLINGS), [(30, 0), (3, 2)])
        self.assertEqual(self.lasting(NET, [(40, 0), (0, 0), (20, 0)]), [(40, 0), (0, 0), (20, 0)])
        self.assertEqual(self.lasting(((9, None),), [(5, 0)] * 40), [(5, 0)])

    def test_of_a_row_of_flames_the_last_one(self):
        net, kindlings = row_of_robbers(40)
        self.assertEqual(self.lasting(net, kindlings), kindlings[-1:])
        self.assertEqual(self.lasting(net, kindlings[::-1]), kindlings[-1:])

    def test_alone_none_of_them_is_lost_and_all_do_as_they_did(self):
        for net, kindlings in CASES:
            lost = {row[2] for row in losses(net, kindlings)}
            kept = [flame for flame in range(len(kindlings)) if flame not in lost]
            told = self.lasting(net, kindlings)
            self.assertEqual(told, [kindlings[flame] for flame in kept])
            self.assertEqual(losses(net, told), [])
            whole = fates(net, kindlings)
            self.assertEqual(fates(net, told), [whole[flame] for flame in kept])
            self.assertEqual(self.lasting(net, told), told)

    def test_behind_the_last_loss_all_burns_as_if_they_were_alone(self):
        for net, kindlings in CASES:
            lost = losses(net, kindlings)
            kept = [flame for flame in range(len(kindlings)) if flame not in {row[2] for row in lost}]
            for beat in (200, 201, 1000, HALF):
                told = burning_at(net, lasting(net, kindlings), beat)
                self.assertEqual(burning_at(net, kindlings, beat), [part and (kept[part[0]], part[1]) for part in told])

    def test_a_new_list(self):
        kindlings = [(0, 0), (20, 0)]
        told = lasting(NET, kindlings)
        self.assertIsInstance(told, list)
        told.clear()
        self.assertEqual(kindlings, [(0, 0), (20, 0)])
        self.assertEqual(lasting(NET, kindlings), kindlings)

    def test_refusals(self):
        self.refuses_in_order(lasting, [
            ("net", NET, bad_nets(), NoNet), ("kindlings", KINDLINGS, bad_kindlings(NET), NoKindlings)])


class RoundTest(LawTest):
    def test_losses_never_lead_round(self):
        for net, kindlings in CASES:
            lost_to = {row[2]: row[3] for row in losses(net, kindlings)}
            for flame in lost_to:
                gone, at = [flame], flame
                while at in lost_to:
                    at = lost_to[at]
                    self.assertNotIn(at, gone)
                    gone.append(at)


if __name__ == "__main__":
    unittest.main()
