"""What becomes of each flame of a net with kindlings: by gaps alone, without a walk."""

from emberlane.alone import lights_of, place_by_lights
from emberlane.errors import NoNumber
from emberlane.needs import need_beat, need_kindlings
from emberlane.nets import is_number_of_many, is_whole, need_lamp

MOST_LIGHTINGS = 100


def clash_on_lamp(length, lap, early, late):
    """The first clash of two flames on a lamp, each going as if alone: (beat, lost, other), or None.

    early and late, rising, are (first, flame): the beat at which the flame first lights the lamp.
    """
    first, one = early
    beat, other = late
    gap = beat - first
    if lap is not None:
        gap = gap % lap
    if gap == 0:
        return (beat, max(one, other), min(one, other))
    if gap < length:
        return (beat, other, one)
    # On a ring the early one comes round again behind the late one, with what the gap leaves of the lap.
    if lap is not None and lap - gap < length:
        return (beat + lap - gap, one, other)
    return None


def first_clash(net, lights, one, other):
    """The first clash of two flames, each going as if alone: (beat, lamp, lost, other), or None."""
    clashes = []
    for lamp, (first, lap) in lights[one].items():
        if lamp not in lights[other]:
            continue
        early, late = sorted([(first, one), (lights[other][lamp][0], other)])
        clash = clash_on_lamp(net[lamp][0], lap, early, late)
        if clash is not None:
            beat, lost, robber = clash
            clashes.append((beat, lamp, lost, robber))
    return min(clashes, default=None)


def first_clashes(net, lights):
    """The first clash of each two flames that have one, sorted."""
    found = []
    for other in range(len(lights)):
        for one in range(other):
            clash = first_clash(net, lights, one, other)
            if clash is not None:
                found.append(clash)
    return sorted(found)


def losses_by_lights(net, lights):
    """The losses, by beats, lamps, flames, of the flames with these lights."""
    lost = {}
    rows = []
    # Two flames that are not lost go as if alone up to their first clash, and one of them is lost there: so no later
    # clash of theirs counts. At one beat and lamp the clashes rise by flames: a lesser flame that comes there at that
    # beat is known to be lost by then, unless it is the one that lights the lamp.
    for beat, lamp, flame, other in first_clashes(net, lights):
        if flame not in lost and other not in lost:
            lost[flame] = True
            rows.append((beat, lamp, flame, other))
    return rows


def lights_of_all(net, kindlings):
    """The lights of each flame, as if it were alone: a list of dicts."""
    return [lights_of(net, kindling) for kindling in kindlings]


def beats_of_losses(rows):
    """For each flame that is lost by the losses the beat of its loss: a dict."""
    return {flame: beat for beat, _, flame, _ in rows}


def fate_alone(net, lights):
    """The fate of the flame with these lights where it is never lost."""
    ring = [lamp for lamp, (_, lap) in lights.items() if lap is not None]
    if ring:
        least = min(ring)
        return ("goes", least, lights[least][0])
    last = list(lights)[-1]
    return ("ended", lights[last][0] + net[last][0], last)


def fates(net, kindlings):
    """The fate of each flame: ("lost", beat, lamp, other), ("ended", beat, lamp) or ("goes", lamp, beat)."""
    need_kindlings(net, kindlings)
    lights = lights_of_all(net, kindlings)
    told = [fate_alone(net, own) for own in lights]
    for beat, lamp, flame, other in losses_by_lights(net, lights):
        told[flame] = ("lost", beat, lamp, other)
    return told


def losses(net, kindlings):
    """All losses (beat, lamp, flame, other), by beats, lamps, flames."""
    need_kindlings(net, kindlings)
    return losses_by_lights(net, lights_of_all(net, kindlings))


def burning_at(net, kindlings, beat):
    """What burns at the beat: for each lamp None, or its flame and how many beats ago it was lit."""
    need_kindlings(net, kindlings)
    need_beat(beat)
    lights = lights_of_all(net, kindlings)
    lost_at = beats_of_losses(losses_by_lights(net, lights))
    told = [None for _ in net]
    for flame, own in enumerate(lights):
        if flame in lost_at and lost_at[flame] <= beat:
            continue
        place = place_by_lights(net, own, beat)
        if place is not None:
            lamp, burnt = place
            told[lamp] = (flame, burnt)
    return told


def need_count(count):
    """Refuse what is no count of lightings that can be asked."""
    if not is_number_of_many(count, MOST_LIGHTINGS + 1):
        raise NoNumber("this is no count of lightings from 0 to 100")


def next_beats(light, first, count):
    """The next beats from first on, so many at most, at which a flame, alone, lights a lamp with this light."""
    beat, lap = light
    if lap is None:
        return [beat] if beat >= first else []
    if beat < first:
        laps = (first - beat + lap - 1) // lap
        beat += laps * lap
    return [beat + lap * at for at in range(count)]


def lightings(net, kindlings, lamp, first, *, count=10):
    """The next so many lightings of the lamp from the beat first on: a list of (beat, flame)."""
    need_kindlings(net, kindlings)
    need_lamp(net, lamp)
    need_beat(first)
    need_count(count)
    lights = lights_of_all(net, kindlings)
    lost_at = beats_of_losses(losses_by_lights(net, lights))
    found = []
    for flame, own in enumerate(lights):
        if lamp not in own:
            continue
        for beat in next_beats(own[lamp], first, count):
            if flame not in lost_at or beat < lost_at[flame]:
                found.append((beat, flame))
    return sorted(found)[:count]


def is_row_of_paper(thing):
    """Whether the thing, which may be anything, has the form of a loss."""
    return isinstance(thing, tuple) and len(thing) == 4 and all(is_whole(part) for part in thing)


def losses_hold(net, kindlings, paper):
    """Whether the paper, which may be anything, is just the told losses."""
    told = losses(net, kindlings)
    if not isinstance(paper, list):
        return False
    # The forms are looked at first: a truth or a fraction would be equal to the whole number that is told.
    return all(is_row_of_paper(row) for row in paper) and paper == told
