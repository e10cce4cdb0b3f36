"""What the tests share: strange things, calls by place and by name, and a second walk to compare with."""

import itertools
import random
import unittest

from emberlane import errors
from emberlane.embers import Embers
from emberlane.nets import way_of

REFUSALS = ("NoNet", "NoKindlings", "NoLamp", "NoFlame", "NoBeat", "NoNumber", "NoRing", "NoPart", "NoText")

SIXTY_FIGURES = int("9" * 60)


class Stranger:
    """An object of a kind that the package does not know."""


def deep(kind, depth=100):
    """Tuples or lists that stand so deep within one another."""
    thing = kind()
    for _ in range(depth - 1):
        thing = kind([thing])
    return thing


def deep_pair(kind, depth=100):
    """Like deep, but each layer has two parts."""
    thing = kind([1, None])
    for _ in range(depth - 1):
        thing = kind([1, thing])
    return thing


def strange_things():
    """Things that are no number, net, kindlings, lamp, and None."""
    return [
        True, False, "", "0", "net", b"", b"0", 0.0, 1.0, 1.5, float("nan"), float("inf"), 1j,
        [], [0], {}, {0: 1}, set(), {0}, frozenset([0]), (0,), ("0",), (None,), (1, None), [1, None],
        range(1), range(3), object(), Stranger(), Stranger, len, int, tuple, iter([]), ..., NotImplemented,
        deep(tuple), deep(list), deep_pair(tuple), deep_pair(list),
    ]


def bad_nets():
    """Things that are no net."""
    return strange_things() + [
        None, (1, None), [(1, None)], ([1, None],), {0: (1, None)}, ((1, None),) * 13, (), ((0, None),), ((1, 1),),
        ((True, None),), ((1, False),)]


def bad_kindlings(net):
    """Things that are no kindlings of the net."""
    many = len(net)
    return [thing for thing in strange_things() if thing != []] + [
        None, ((0, 0),), (), [[0, 0]], [(0, 0)] * 41, [(-1, 0)], [(0, many)], [(0, -1)], [(0, None)], [(True, 0)],
        [(0, False)], [(0, 0), (0,)], [(0, 0, 0)], [None], {0: (0, 0)}, (0, 0)]


def bad_kindling(net):
    """Things that are no kindling of the net."""
    many = len(net)
    return strange_things() + [
        None, [(0, 0)], [0, 0], (0,), (0, 0, 0), (-1, 0), (0, many), (0, -1), (0, None), (None, 0), (True, 0),
        (0, False), ("0", 0), (0, "0"), (0.0, 0), (0, 0.0), ((0, 0), 0), (0, (0,)), {0: 0, 1: 0}, 0]


def bad_numbers(many):
    """Things that are none of so many numbers from 0 on."""
    return strange_things() + [None, -1, -many - 1, many, many + 1, SIXTY_FIGURES, -SIXTY_FIGURES]


def bad_beats():
    """Things that are no beat from 0 on."""
    return strange_things() + [None, -1, -2, -SIXTY_FIGURES]


class LawTest(unittest.TestCase):
    """A test case that calls by place and by name, and asks for refusals."""

    def both_ways(self, function, **named):
        """What the function tells, by place and by name alike."""
        told = function(*named.values())
        self.assertEqual(told, function(**named))
        return told

    def refuses(self, kind, function, *given, **named):
        """The call is refused with just this class."""
        with self.assertRaises(errors.EmberError) as caught:
            function(*given, **named)
        self.assertIs(type(caught.exception), kind)
        self.assertIsInstance(caught.exception, ValueError)

    def refuses_both_ways(self, kind, function, **named):
        self.refuses(kind, function, *named.values())
        self.refuses(kind, function, **named)

    def refuses_in_order(self, function, asked, starred=()):
        """Of (name, good, bad things, kind), as they are handed in: each bad thing is refused, the first one first.

        Names in starred stand behind the star. What nothing bad is told of is never refused.
        """
        good = {name: thing for name, thing, _, _ in asked}
        asked = [part for part in asked if part[2]]
        for at, (name, _, bad, kind) in enumerate(asked):
            behind = asked[at + 1:]
            for thing in bad:
                self.refuses_by_both(kind, function, {**good, name: thing}, starred)
            for some in itertools.product((False, True), repeat=len(behind)):
                named = {**good, name: bad[-1]}
                named.update({other[0]: other[2][-1] for other, is_bad in zip(behind, some) if is_bad})
                self.refuses_by_both(kind, function, named, starred)

    def refuses_by_both(self, kind, function, named, starred):
        placed = [thing for name, thing in named.items() if name not in starred]
        behind = {name: thing for name, thing in named.items() if name in starred}
        self.refuses(kind, function, *placed, **behind)
        self.refuses(kind, function, **named)


def walk(net, kindlings, beats):
    """What happens at so many beats, and what burns behind each: a walk of its own, flame by flame."""
    where = {}
    rows, pictures = [], []
    for beat in range(beats):
        ended, came = [], []
        for flame in list(where):
            lamp, lit = where[flame]
            if lit + net[lamp][0] == beat:
                del where[flame]
                if net[lamp][1] is None:
                    ended.append((lamp, ("ended", beat, lamp, flame)))
                else:
                    came.append((net[lamp][1], flame))
        came += [(lamp, flame) for flame, (due, lamp) in enumerate(kindlings) if due == beat]
        rows += [row for _, row in sorted(ended)]
        for lamp, flame in sorted(came):
            holders = [other for other in where if where[other][0] == lamp]
            if holders:
                rows.append(("lost", beat, lamp, flame, holders[0]))
            else:
                where[flame] = (lamp, beat)
                rows.append(("lit", beat, lamp, flame))
        picture = [None] * len(net)
        for flame, (lamp, lit) in where.items():
            picture[lamp] = (flame, beat - lit)
        pictures.append(picture)
    return rows, pictures


def go_through(net, kindlings, beats):
    """An Embers that has gone so many beats, kindled at rising beats as told."""
    embers = Embers(net)
    waiting = list(kindlings)
    for beat in range(beats):
        while waiting and waiting[0][0] == beat:
            embers.kindle(waiting.pop(0)[1])
        embers.go()
    return embers


def some_net(dice, most_lamps=6, most_length=7):
    """A net by the dice, half of them with lamps that have no next."""
    many = dice.randint(1, most_lamps)
    ends = dice.choice([[], [None]])
    return tuple((dice.randint(1, most_length), dice.choice(list(range(many)) + ends)) for _ in range(many))


def some_kindlings(dice, net, most=8, last_beat=25):
    """Kindlings of the net by the dice, with rising beats."""
    many = dice.randint(0, most)
    beats = sorted(dice.randint(0, last_beat) for _ in range(many))
    return [(beat, dice.randrange(len(net))) for beat in beats]


def some_cases(seed, many):
    """So many nets with kindlings, the same ones for the same seed."""
    dice = random.Random(seed)
    cases = []
    for _ in range(many):
        net = some_net(dice)
        cases.append((net, some_kindlings(dice, net)))
    return cases


def walk_of_embers(net, kindlings, beats):
    """Like walk, but by an Embers, for kindlings in any order of beats.

    An Embers numbers its flames as they come. So each comes out of a lamp of its own, and all these lamps are
    kindled at beat 0 in the order of the list: all happens one beat later than told.
    """
    many = len(net)
    embers = Embers(net + tuple((beat + 1, lamp) for beat, lamp in kindlings))
    for flame in range(len(kindlings)):
        embers.kindle(many + flame)
    embers.go()
    pictures = []
    for _ in range(beats):
        embers.go()
        pictures.append(embers.burning()[:many])
    rows = [(row[0], row[1] - 1) + row[2:] for row in embers.happened() if row[2] < many]
    return rows, pictures


def losses_of_walk(rows):
    """The losses among what happened, in the order of what is told."""
    return sorted(row[1:] for row in rows if row[0] == "lost")


def fates_of_walk(net, kindlings, rows):
    """The fates of the flames by what happened, where that goes on till all has come to rest."""
    told = []
    for flame, (_, lamp) in enumerate(kindlings):
        own = [row for row in rows if row[3] == flame]
        if own[-1][0] == "lost":
            told.append(own[-1][:3] + own[-1][4:])
        elif own[-1][0] == "ended":
            told.append(own[-1][:3])
        else:
            least = min(way_of(net, lamp)[1])
            told.append(("goes", least, min(row[1] for row in own if row[2] == least)))
    return told


def some_cases_in_any_order(seed, many, most_lamps=5, most=7):
    """Like some_cases, with lists in any order of beats, many of them with few unlike beats or lamps."""
    dice = random.Random(seed)
    cases = []
    for _ in range(many):
        net = some_net(dice, most_lamps)
        kindlings = some_kindlings(dice, net, most, dice.choice((0, 3, 12, 25)))
        if kindlings and dice.random() < 0.3:
            kindlings = [(beat, kindlings[0][1]) for beat, _ in kindlings]
        dice.shuffle(kindlings)
        cases.append((net, kindlings))
    return cases


def times(net, kindlings, factor):
    """The net and its kindlings with all lengths and beats so many times as great."""
    greater = tuple((length * factor, onward) for length, onward in net)
    return greater, [(beat * factor, lamp) for beat, lamp in kindlings]


def later(kindlings, beats):
    """The kindlings so many beats later."""
    return [(beat + beats, lamp) for beat, lamp in kindlings]
