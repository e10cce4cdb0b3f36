"""Where a ring has room for a flame more, and how flames can be set on it so that none is ever lost."""

from math import comb

from emberlane.alone import lights_of
from emberlane.errors import NoBeat, NoNumber
from emberlane.fates import fates
from emberlane.needs import need_beat, need_kindlings, need_ring
from emberlane.nets import is_number_of_many, is_whole, lap_of, need_lamp, way_of
from emberlane.rests import beats_on_ring, gaps_of_beats, rest_of


def need_free_beat(net, kindlings, beat):
    """Refuse what is no beat, then one that is not behind the last kindling, or ahead of the rest."""
    need_beat(beat)
    if any(kindled >= beat for kindled, _ in kindlings) or beat < rest_of(net, kindlings)[0]:
        raise NoBeat("at this beat the net with its kindlings has not come to rest")


def spans_of_room(net, kindlings, ring):
    """The spans of room in a lap of the ring: (beat, how many beats of room from it on).

    They are beats at which a flame more would light the ring's least lamp, whole laps aside.
    """
    lap, longest = lap_of(net, ring[0])
    beats = beats_on_ring(fates(net, kindlings), ring)
    if not beats:
        return [(0, lap)]
    spans = []
    at = beats[0]
    for gap in gaps_of_beats(beats, lap):
        # What is left of the gap on either side has to be the longest length at least.
        if gap >= 2 * longest:
            spans.append((at + longest, gap - 2 * longest + 1))
        at += gap
    return spans


def first_room(net, kindlings, lamp, beat):
    """The first beat, from this one on, at which a flame more has room at the lamp, or None."""
    need_kindlings(net, kindlings)
    need_lamp(net, lamp)
    need_free_beat(net, kindlings, beat)
    _, ring = way_of(net, lamp)
    if not ring:
        return None
    lap, _ = lap_of(net, lamp)
    lights_least, _ = lights_of(net, (beat, lamp))[min(ring)]
    waits = []
    for start, many in spans_of_room(net, kindlings, ring):
        behind = (lights_least - start) % lap
        waits.append(0 if behind < many else lap - behind)
    return beat + min(waits) if waits else None


def rooms(net, kindlings, lamp):
    """How many beats of room at the lamp there are in a lap of the ring to which it leads."""
    need_kindlings(net, kindlings)
    need_lamp(net, lamp)
    _, ring = way_of(net, lamp)
    if not ring:
        return 0
    return sum(many for _, many in spans_of_room(net, kindlings, ring))


def more(net, kindlings, lamp):
    """How many flames more can be let in at most onto the ring to which the lamp leads."""
    need_kindlings(net, kindlings)
    need_lamp(net, lamp)
    _, ring = way_of(net, lamp)
    if not ring:
        return 0
    lap, longest = lap_of(net, lamp)
    beats = beats_on_ring(fates(net, kindlings), ring)
    if not beats:
        return lap // longest
    return sum(gap // longest - 1 for gap in gaps_of_beats(beats, lap))


def need_flames(flames):
    """Refuse what is no number of flames from 1 on."""
    if not is_whole(flames) or flames < 1:
        raise NoNumber("this is no number of flames from 1 on")


def ways_in_row(beats, flames, longest):
    """In how many ways so many flames are put into a row of so many beats, each the longest length behind another."""
    free = beats - (flames - 1) * (longest - 1)
    return comb(free, flames) if free >= flames else 0


def ways_behind_first(lap, flames, longest):
    """How many settings there are of each first number below the longest length: those behind it are a row."""
    return ways_in_row(lap - 2 * longest + 1, flames - 1, longest)


def settings(net, lamp, flames):
    """How many settings of so many flames the lamp has."""
    need_ring(net, lamp)
    need_flames(flames)
    lap, longest = lap_of(net, lamp)
    # From a first number of the longest length on all of them are a row: the next lap is far enough from the last one.
    return longest * ways_behind_first(lap, flames, longest) + ways_in_row(lap - longest, flames, longest)


def beats_ahead(beats, flames, longest, number):
    """How many beats of a row stay free ahead of its first flame, in the way at this number, and ways with fewer."""
    whole = ways_in_row(beats, flames, longest)
    low = 0
    high = beats
    while high - low > 1:
        middle = (low + high) // 2
        if whole - ways_in_row(beats - middle, flames, longest) <= number:
            low = middle
        else:
            high = middle
    return (low, whole - ways_in_row(beats - low, flames, longest))


def row_at(start, beats, flames, longest, number):
    """The way at this number, as they are sorted, of so many flames in a row of so many beats from start on."""
    told = []
    for left in range(flames, 0, -1):
        free, fewer = beats_ahead(beats, left, longest, number)
        told.append(start + free)
        number -= fewer
        start += free + longest
        beats -= free + longest
    return tuple(told)


def setting(net, lamp, flames, number):
    """The setting of so many flames of the lamp at this number, as they are sorted."""
    if not is_number_of_many(number, settings(net, lamp, flames)):
        raise NoNumber("there is no setting at this number")
    lap, longest = lap_of(net, lamp)
    each = ways_behind_first(lap, flames, longest)
    if number >= longest * each:
        return row_at(longest, lap - longest, flames, longest, number - longest * each)
    first, rest = divmod(number, each)
    return (first,) + row_at(first + longest, lap - 2 * longest + 1, flames - 1, longest, rest)
