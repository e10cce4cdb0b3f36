"""What the tests share: strange things, calls by place and by name, and a second walk to compare with."""

import random
import unittest

from emberlane import errors
from emberlane.embers import Embers

REFUSALS = ("NoNet", "NoKindlings", "NoLamp", "NoFlame", "NoBeat", "NoNumber", "NoRing", "NoPart", "NoText")

SIXTY_FIGURES = int("9" * 60)


class Stranger:
    """An object of a kind that the package does not know."""


def deep(kind, depth=100):
    """Tuples or lists that stand so deep within one another."""
    thing = kind()
    for _ in range(depth - 1):
        thing = kind([thing])
    return thing


def deep_pair(kind, depth=100):
    """Like deep, but each layer has two parts."""
    thing = kind([1, None])
    for _ in range(depth - 1):
        thing = kind([1, thing])
    return thing


def strange_things():
    """Things that are no number, net, kindlings, lamp, and None."""
    return [
        True, False, "", "0", "net", b"", b"0", 0.0, 1.0, 1.5, float("nan"), float("inf"), 1j,
        [], [0], {}, {0: 1}, set(), {0}, frozenset([0]), (0,), ("0",), (None,), (1, None), [1, None],
        range(1), range(3), object(), Stranger(), Stranger, len, int, tuple, iter([]), ..., NotImplemented,
        deep(tuple), deep(list), deep_pair(tuple), deep_pair(list),
    ]


class LawTest(unittest.TestCase):
    """A test case that calls by place and by name, and asks for refusals."""

    def both_ways(self, function, **named):
        """What the function tells, by place and by name alike."""
        told = function(*named.values())
        self.assertEqual(told, function(**named))
        return told

    def refuses(self, kind, function, *given, **named):
        """The call is refused with just this class."""
        with self.assertRaises(errors.EmberError) as caught:
            function(*given, **named)
        self.assertIs(type(caught.exception), kind)
        self.assertIsInstance(caught.exception, ValueError)

    def refuses_both_ways(self, kind, function, **named):
        self.refuses(kind, function, *named.values())
        self.refuses(kind, function, **named)


def walk(net, kindlings, beats):
    """What happens at so many beats, and what burns behind each: a walk of its own, flame by flame."""
    where = {}
    rows, pictures = [], []
    for beat in range(beats):
        ended, came = [], []
        for flame in list(where):
            lamp, lit = where[flame]
            if lit + net[lamp][0] == beat:
                del where[flame]
                if net[lamp][1] is None:
                    ended.append((lamp, ("ended", beat, lamp, flame)))
                else:
                    came.append((net[lamp][1], flame))
        came += [(lamp, flame) for flame, (due, lamp) in enumerate(kindlings) if due == beat]
        rows += [row for _, row in sorted(ended)]
        for lamp, flame in sorted(came):
            holders = [other for other in where if where[other][0] == lamp]
            if holders:
                rows.append(("lost", beat, lamp, flame, holders[0]))
            else:
                where[flame] = (lamp, beat)
                rows.append(("lit", beat, lamp, flame))
        picture = [None] * len(net)
        for flame, (lamp, lit) in where.items():
            picture[lamp] = (flame, beat - lit)
        pictures.append(picture)
    return rows, pictures


def go_through(net, kindlings, beats):
    """An Embers that has gone so many beats, kindled at rising beats as told."""
    embers = Embers(net)
    waiting = list(kindlings)
    for beat in range(beats):
        while waiting and waiting[0][0] == beat:
            embers.kindle(waiting.pop(0)[1])
        embers.go()
    return embers


def some_net(dice, most_lamps=6, most_length=7):
    """A net by the dice, half of them with lamps that have no next."""
    many = dice.randint(1, most_lamps)
    ends = dice.choice([[], [None]])
    return tuple((dice.randint(1, most_length), dice.choice(list(range(many)) + ends)) for _ in range(many))


def some_kindlings(dice, net, most=8, last_beat=25):
    """Kindlings of the net by the dice, with rising beats."""
    many = dice.randint(0, most)
    beats = sorted(dice.randint(0, last_beat) for _ in range(many))
    return [(beat, dice.randrange(len(net))) for beat in beats]


def some_cases(seed, many):
    """So many nets with kindlings, the same ones for the same seed."""
    dice = random.Random(seed)
    cases = []
    for _ in range(many):
        net = some_net(dice)
        cases.append((net, some_kindlings(dice, net)))
    return cases
