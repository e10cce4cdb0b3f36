"""To what a net with kindlings comes: its rest, the gaps on its rings, and the lamps that burn for ever."""

from math import lcm

from emberlane.fates import beats_of_losses, fates, lights_of_all, losses_by_lights
from emberlane.needs import need_beat, need_kindlings, need_ring
from emberlane.nets import lap_of, need_lamp, rings, way_of


def rests_from(net, kindling, fate):
    """The least beat from which on what the flame of this fate burns is nothing, or comes again each lap."""
    beat, lamp = kindling
    if fate[0] == "goes":
        ahead, _ = way_of(net, lamp)
        return beat + sum(net[at][0] for at in ahead)
    # One that is lost as it is kindled never burns, so no beat has to be waited for.
    return fate[1] if fate[1] > beat else 0


def beats_on_ring(told, ring):
    """The first beats at which those that go on the ring, by the told fates, light its least lamp; by flames."""
    least = min(ring)
    return [fate[2] for fate in told if fate[0] == "goes" and fate[1] == least]


def gaps_of_beats(beats, lap):
    """The gaps of flames that light a lamp at these beats and each lap behind, from the first one on, once round."""
    if not beats:
        return []
    behind = sorted((beat - beats[0]) % lap for beat in beats)
    behind.append(lap)
    return [behind[at] - behind[at - 1] for at in range(1, len(behind))]


def round_of_gaps(between):
    """Behind how many beats flames with these gaps, once round a ring, stand again as some of them stood."""
    for many in range(1, len(between) + 1):
        if between[many:] + between[:many] == between:
            return sum(between[:many])
    return 1


def rest_of(net, kindlings):
    """The rest: the least beat from which on what burns comes again, and behind how many beats it does."""
    told = fates(net, kindlings)
    first = max([rests_from(net, kindling, fate) for kindling, fate in zip(kindlings, told)], default=0)
    again = 1
    for fate in told:
        if fate[0] == "goes":
            again = lcm(again, lap_of(net, fate[1])[0])
    return (first, again)


def round_of_lamps(net, kindlings):
    """Behind how many beats, at rest, the burning lamps come again, whichever flames they have."""
    told = fates(net, kindlings)
    again = 1
    for ring in rings(net):
        lap, _ = lap_of(net, ring[0])
        again = lcm(again, round_of_gaps(gaps_of_beats(beats_on_ring(told, ring), lap)))
    return again


def gaps(net, kindlings, lamp):
    """The gaps of the ring that the lamp is of, at rest, from the flame of the least number on, once round."""
    need_kindlings(net, kindlings)
    need_ring(net, lamp)
    _, ring = way_of(net, lamp)
    lap, _ = lap_of(net, lamp)
    # At each lamp of the ring the gaps are the same, so they may be taken at the least one.
    return gaps_of_beats(beats_on_ring(fates(net, kindlings), ring), lap)


def burns_for_ever(net, kindlings, lamp):
    """Whether the lamp burns at every beat from some beat on."""
    ahead, ring = way_of(net, lamp)
    if ahead:
        return False
    going = beats_on_ring(fates(net, kindlings), ring)
    # No gap is less than the lamp's length, so all are that length just where they are the lap together.
    return len(going) * net[lamp][0] == lap_of(net, lamp)[0]


def spans_of_lightings(net, kindlings, lamp):
    """For each flame whose way comes by the lamp when it first does, and when the flame is lost or None."""
    lights = lights_of_all(net, kindlings)
    lost_at = beats_of_losses(losses_by_lights(net, lights))
    return [(own[lamp][0], lost_at.get(flame)) for flame, own in enumerate(lights) if lamp in own]


def is_lit_by(spans, length, lap, beat):
    """Whether a lamp of a ring, of this length, burns at the beat by one of the flames with these spans."""
    for first, lost in spans:
        if first <= beat and (beat - first) % lap < length and (lost is None or beat < lost):
            return True
    return False


def burns_from(net, kindlings, lamp):
    """The least beat from which on the lamp burns at every beat, or None where there is none."""
    need_kindlings(net, kindlings)
    need_lamp(net, lamp)
    if not burns_for_ever(net, kindlings, lamp):
        return None
    length = net[lamp][0]
    lap, _ = lap_of(net, lamp)
    spans = spans_of_lightings(net, kindlings, lamp)
    # A lap behind the last dark beat the lamp burns by a flame that lit it then for the first time, and all lightings
    # between are a length apart: so that flame's first lighting tells the dark beat. Ahead of beat 0 all is dark.
    maybe = [first - lap + length - 1 for first, _ in spans]
    return max([beat for beat in maybe if not is_lit_by(spans, length, lap, beat)]) + 1


def can_burn(net, lamp):
    """Whether the lamp burns at every beat from some beat on with any kindlings."""
    ahead, _ = way_of(net, lamp)
    if ahead:
        return False
    lap, longest = lap_of(net, lamp)
    return net[lamp][0] == longest and lap % longest == 0


def keepers(net, lamp, beat):
    """The fewest kindlings of the lamp by which it burns at every beat from this one on, or None."""
    can = can_burn(net, lamp)
    need_beat(beat)
    if not can:
        return None
    lap, longest = lap_of(net, lamp)
    return [(beat + longest * at, lamp) for at in range(lap // longest)]
