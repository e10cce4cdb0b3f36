"""What the tests share: strange things, calls by place and by name, and a second walk to compare with."""

import itertools
import random
import unittest

from emberlane import errors
from emberlane.embers import Embers
from emberlane.nets import way_of

REFUSALS = ("NoNet", "NoKindlings", "NoLamp", "NoFlame", "NoBeat", "NoNumber", "NoRing", "NoPart", "NoText")

SIXTY_FIGURES = int("9" * 60)


class Stranger:
    """An object of a kind that the package does not know."""


def deep(kind, depth=100):
    """Tuples or lists that stand so deep within one another."""
    thing = kind()
    for _ in range(depth - 1):
        thing = kind([thing])
    return thing


def deep_pair(kind, depth=100):
    """Like deep, but each layer has two parts."""
    thing = kind([1, None])
    for _ in range(depth - 1):
        thing = kind([1, thing])
    return thing


def strange_things():
    """Things that are no number, net, kindlings, lamp, and None."""
    return [
        True, False, "", "0", "net", b"", b"0", 0.0, 1.0, 1.5, float("nan"), float("inf"), 1j,
        [], [0], {}, {0: 1}, set(), {0}, frozenset([0]), (0,), ("0",), (None,), (1, None), [1, None],
        range(1), range(3), object(), Stranger(), Stranger, len, int, tuple, iter([]), ..., NotImplemented,
        deep(tuple), deep(list), deep_pair(tuple), deep_pair(list),
    ]


def bad_nets():
    """Things that are no net."""
    return strange_things() + [
        None, (1, None), [(1, None)], ([1, None],), {0: (1, None)}, ((1, None),) * 13, (), ((0, None),), ((1, 1),),
        ((True, None),), ((1, False),)]


def bad_kindlings(net):
    """Things that are no kindlings of the net."""
    many = len(net)
    return [thing for thing in strange_things() if thing != []] + [
        None, ((0, 0),), (), [[0, 0]], [(0, 0)] * 41, [(-1, 0)], [(0, many)], [(0, -1)], [(0, None)], [(True, 0)],
        [(0, False)], [(0, 0), (0,)], [(0, 0, 0)], [None], {0: (0, 0)}, (0, 0)]


def bad_kindling(net):
    """Things that are no kindling of the net."""
    many = len(net)
    return strange_things() + [
        None, [(0, 0)], [0, 0], (0,), (0, 0, 0), (-1, 0), (0, many), (0, -1), (0, None), (None, 0), (True, 0),
        (0, False), ("0", 0), (0, "0"), (0.0, 0), (0, 0.0), ((0, 0), 0), (0, (0,)), {0: 0, 1: 0}, 0]


def bad_numbers(many):
    """Things that are none of so many numbers from 0 on."""
    return strange_things() + [None, -1, -many - 1, many, many + 1, SIXTY_FIGURES, -SIXTY_FIGURES]


def bad_beats():
    """Things that are no beat from 0 on."""
    return strange_things() + [None, -1, -2, -SIXTY_FIGURES]


class LawTest(unittest.TestCase):
    """A test case that calls by place and by name, and asks for refusals."""

    def both_ways(self, function, **named):
        """What the function tells, by place and by name alike."""
        told = function(*named.values())
        self.assertEqual(told, function(**named))
        return told

    def refuses(self, kind, function, *given, **named):
        """The call is refused with just this class."""
        with self.assertRaises(errors.EmberError) as caught:
            function(*given, **named)
        self.assertIs(type(caught.exception), kind)
        self.assertIsInstance(caught.exception, ValueError)

    def refuses_both_ways(self, kind, function, **named):
        self.refuses(kind, function, *named.values())
        self.refuses(kind, function, **named)

    def refuses_in_order(self, function, asked, starred=()):
        """Of (name, good, bad things, kind), as they are handed in: each bad thing is refused, the first one first.

        Names in starred stand behind the star. What nothing bad is told of is never refused.
        """
        good = {name: thing for name, thing, _, _ in asked}
        asked = [part for part in asked if part[2]]
        for at, (name, _, bad, kind) in enumerate(asked):
            behind = asked[at + 1:]
            for thing in bad:
                self.refuses_by_both(kind, function, {**good, name: thing}, starred)
            for some in itertools.product((False, True), repeat=len(behind)):
                named = {**good, name: bad[-1]}
                named.update({other[0]: other[2][-1] for other, is_bad in zip(behind, some) if is_bad})
                self.refuses_by_both(kind, function, named, starred)

    def refuses_by_both(self, kind, function, named, starred):
        placed = [thing for name, thing in named.items() if name not in starred]
        behind = {name: thing for name, thing in named.items() if name in starred}
        self.refuses(kind, function, *placed, **behind)
        self.refuses(kind, function, **named)


def walk(net, kindlings, beats):
    """What happens at so many beats, and what burns behind each: a walk of its own, flame by flame."""
    where = {}
    rows, pictures = [], []
    for beat in range(beats):
        ended, came = [], []
        for flame in list(where):
            lamp, lit = where[flame]
            if lit + net[lamp][0] == beat:
                del where[flame]
                if net[lamp][1] is None:
                    ended.append((lamp, ("ended", beat, lamp, flame)))
                else:
                    came.append((net[lamp][1], flame))
        came += [(lamp, flame) for flame, (due, lamp) in enumerate(kindlings) if due == beat]
        rows += [row for _, row in sorted(ended)]
        for lamp, flame in sorted(came):
            holders = [other for other in where if where[other][0] == lamp]
            if holders:
                rows.append(("lost", beat, lamp, flame, holders[0]))
            else:
                where[flame] = (lamp, beat)
                rows.append(("lit", beat, lamp, flame))
        picture = [None] * len(net)
        for flame, (lamp, lit) in where.items():
            picture[lamp] = (flame, beat - lit)
        pictures.append(picture)
    return rows, pictures


def go_through(net, kindlings, beats):
    """An Embers that has gone so many beats, kindled at rising beats as told."""
    embers = Embers(net)
    waiting = list(kindlings)
    for beat in range(beats):
        while waiting and waiting[0][0] == beat:
            embers.kindle(waiting.pop(0)[1])
        embers.go()
    return embers


def some_net(dice, most_lamps=6, most_length=7):
    """A net by the dice, half of them with lamps that have no next."""
    many = dice.randint(1, most_lamps)
    ends = dice.choice([[], [None]])
    return tuple((dice.randint(1, most_length), dice.choice(list(range(many)) + ends)) for _ in range(many))


def some_kindlings(dice, net, most=8, last_beat=25):
    """Kindlings of the net by the dice, with rising beats."""
    many = dice.randint(0, most)
    beats = sorted(dice.randint(0, last_beat) for _ in range(many))
    return [(beat, dice.randrange(len(net))) for beat in beats]


def some_cases(seed, many):
    """So many nets with kindlings, the same ones for the same seed."""
    dice = random.Random(seed)
    cases = []
    for _ in range(many):
        net = some_net(dice)
        cases.append((net, some_kindlings(dice, net)))
    return cases


def walk_of_embers(net, kindlings, beats):
    """Like walk, but by an Embers, for kindlings in any order of beats.

    An Embers numbers its flames as they come. So each comes out of a lamp of its own, and all these lamps are
    kindled at beat 0 in the order of the list: all happens one beat later than told.
    """
    many = len(net)
    embers = Embers(net + tuple((beat + 1, lamp) for beat, lamp in kindlings))
    for flame in range(len(kindlings)):
        embers.kindle(many + flame)
    embers.go()
    pictures = []
    for _ in range(beats):
        embers.go()
        pictures.append(embers.burning()[:many])
    rows = [(row[0], row[1] - 1) + row[2:] for row in embers.happened() if row[2] < many]
    return rows, pictures


def losses_of_walk(rows):
    """The losses among what happened, in the order of what is told."""
    return sorted(row[1:] for row in rows if row[0] == "lost")


def fates_of_walk(net, kindlings, rows):
    """The fates of the flames by what happened, where that goes on till all has come to rest."""
    told = []
    for flame, (_, lamp) in enumerate(kindlings):
        own = [row for row in rows if row[3] == flame]
        if own[-1][0] == "lost":
            told.append(own[-1][:3] + own[-1][4:])
        elif own[-1][0] == "ended":
            told.append(own[-1][:3])
        else:
            least = min(way_of(net, lamp)[1])
            told.append(("goes", least, min(row[1] for row in own if row[2] == least)))
    return told


def some_cases_in_any_order(seed, many, most_lamps=5, most=7):
    """Like some_cases, with lists in any order of beats, many of them with few unlike beats or lamps."""
    dice = random.Random(seed)
    cases = []
    for _ in range(many):
        net = some_net(dice, most_lamps)
        kindlings = some_kindlings(dice, net, most, dice.choice((0, 3, 12, 25)))
        if kindlings and dice.random() < 0.3:
            kindlings = [(beat, kindlings[0][1]) for beat, _ in kindlings]
        dice.shuffle(kindlings)
        cases.append((net, kindlings))
    return cases


def times(net, kindlings, factor):
    """The net and its kindlings with all lengths and beats so many times as great."""
    greater = tuple((length * factor, onward) for length, onward in net)
    return greater, [(beat * factor, lamp) for beat, lamp in kindlings]


def later(kindlings, beats):
    """The kindlings so many beats later."""
    return [(beat + beats, lamp) for beat, lamp in kindlings]


def net_of_rings(dice, most_rings=2, most_length=5, ways=3):
    """A net by the dice of some rings of one to three lamps, some lamps that lead to them, and some that end."""
    lamps = []
    for _ in range(dice.randint(1, most_rings)):
        first, many = len(lamps), dice.randint(1, 3)
        # A length for all of the ring now and then, so that some lamps can burn for ever.
        length = dice.choice([None, dice.randint(1, most_length)])
        for at in range(many):
            lamps.append((length or dice.randint(1, most_length), first + (at + 1) % many))
    for _ in range(dice.randint(0, ways)):
        lamps.append((dice.randint(1, most_length), dice.choice([*range(len(lamps)), None])))
    return renumbered(lamps, dice.sample(range(len(lamps)), len(lamps)))


def renumbered(lamps, places):
    """The net in which each lamp, by its old number, has the number that stands at its place."""
    told = [None] * len(lamps)
    for at, (length, onward) in enumerate(lamps):
        told[places[at]] = (length, None if onward is None else places[onward])
    return tuple(told)


def ring_cases(seed, many, most=6, **named):
    """So many nets of rings with kindlings in any order of beats."""
    dice = random.Random(seed)
    cases = []
    for _ in range(many):
        net = net_of_rings(dice, **named)
        kindlings = some_kindlings(dice, net, most, dice.choice((4, 12, 30)))
        if kindlings and dice.random() < 0.4:
            # All of one lamp, a length of it apart: these hardly rob one another.
            lamp = kindlings[0][1]
            kindlings = [(beat // net[lamp][0] * net[lamp][0], lamp) for beat, _ in kindlings]
        if dice.random() < 0.5:
            dice.shuffle(kindlings)
        cases.append((net, kindlings))
    return cases


def rows_of_embers(net, kindlings, beats):
    """What happens at so many beats by an Embers, or None where none can be asked.

    A list in any order of beats is let out of lamps of its own, as by walk_of_embers, where the net has place for them.
    """
    if len(net) + len(kindlings) <= 12 and beats < 4000:
        many = len(net)
        embers = Embers(net + tuple((beat + 1, lamp) for beat, lamp in kindlings))
        for flame in range(len(kindlings)):
            embers.kindle(many + flame)
        go_to(embers, beats + 1)
        return [(row[0], row[1] - 1) + row[2:] for row in embers.happened() if row[2] < many]
    due = [beat for beat, _ in kindlings]
    if due != sorted(due) or beats > 4000:
        return None
    embers = Embers(net)
    for beat, lamp in kindlings:
        go_to(embers, beat)
        embers.kindle(lamp)
    go_to(embers, beats)
    return embers.happened()


def go_to(embers, beat):
    """Let the Embers go till this beat is the coming one."""
    while embers.coming() < beat:
        embers.go(beats=min(400, beat - embers.coming()))


def long_walk(net, kindlings, beats):
    """Like walk, by an Embers where it can be asked: what burns is told by the lightings then."""
    rows = rows_of_embers(net, kindlings, beats)
    if rows is None:
        return walk(net, kindlings, beats)
    pictures = [[None] * len(net) for _ in range(beats)]
    for row in rows:
        if row[0] == "lit":
            _, beat, lamp, flame = row
            for burnt in range(min(net[lamp][0], beats - beat)):
                pictures[beat + burnt][lamp] = (flame, burnt)
    return rows, pictures


def walk_to_rest(net, kindlings):
    """(first, round, rows, pictures) by a walk that is gone on till what burns has come again, and three rounds on.

    Behind the last kindling all hangs on what burns: so what has come again once comes again for ever.
    """
    last = max([beat for beat, _ in kindlings], default=0)
    beats = last + 60
    while True:
        pictures = long_walk(net, kindlings, beats)[1]
        seen = {}
        for beat in range(last, beats):
            picture = tuple(pictures[beat])
            if picture in seen:
                again = beat - seen[picture]
                first = seen[picture]
                while first > 0 and pictures[first - 1] == pictures[first - 1 + again]:
                    first -= 1
                return (first, again) + long_walk(net, kindlings, max(first, last) + 3 * again + 1)
            seen[picture] = beat
        beats *= 2


def lamps_alone(picture):
    """What burns, the flames aside: for each lamp None or how many beats ago it was lit."""
    return [part and part[1] for part in picture]
