"""Where a flame is at a beat, and when it lights a lamp, if its kindling is the only one."""

from emberlane.needs import need_beat, need_kindling
from emberlane.nets import need_lamp, way_of


def lights_of(net, kindling):
    """For each lamp that the flame lights, as its way goes, the first beat, and its lap or None: a dict."""
    beat, lamp = kindling
    ahead, ring = way_of(net, lamp)
    lap = sum(net[at][0] for at in ring)
    lights = {}
    for at in ahead:
        lights[at] = (beat, None)
        beat += net[at][0]
    for at in ring:
        lights[at] = (beat, lap)
        beat += net[at][0]
    return lights


def place_by_lights(net, lights, beat):
    """Where the flame with these lights is at the beat: the lamp and how many beats ago it was lit, or None."""
    for lamp, (first, lap) in lights.items():
        burnt = beat - first
        if lap is not None and burnt >= 0:
            burnt = burnt % lap
        if 0 <= burnt < net[lamp][0]:
            return (lamp, burnt)
    return None


def place_alone(net, kindling, beat):
    """Where the flame of the only kindling is at the beat: (lamp, beats), or None."""
    need_kindling(net, kindling)
    need_beat(beat)
    return place_by_lights(net, lights_of(net, kindling), beat)


def lights_alone(net, kindling, lamp):
    """When the flame of the only kindling lights the lamp: (first, lap), or None where it never does."""
    need_kindling(net, kindling)
    need_lamp(net, lamp)
    return lights_of(net, kindling).get(lamp)


def gap_of(net, one, other):
    """The first lamp of one's way that is on other's, and how long behind one other lights it; or None."""
    need_kindling(net, one)
    need_kindling(net, other)
    lights = lights_of(net, one)
    others = lights_of(net, other)
    for lamp in lights:
        if lamp in others:
            return (lamp, others[lamp][0] - lights[lamp][0])
    return None
