"""What a net is, what its kindlings are, and where the ways of its lamps lead."""

from emberlane.errors import NoLamp, NoNet

MOST_LAMPS = 12
MOST_KINDLINGS = 40


def is_whole(thing):
    """Whether the thing is a whole number: an int that is no truth."""
    return isinstance(thing, int) and not isinstance(thing, bool)


def is_pair(thing):
    """Whether the thing is a tuple of two parts."""
    return isinstance(thing, tuple) and len(thing) == 2


def is_number_of_many(thing, many):
    """Whether the thing is one of so many numbers from 0 on."""
    return is_whole(thing) and 0 <= thing < many


def is_lamp_of_many(thing, many):
    """Whether the thing is a lamp such as stands in a net of so many lamps."""
    if not is_pair(thing):
        return False
    length, onward = thing
    if not is_whole(length) or length < 1:
        return False
    return onward is None or is_number_of_many(onward, many)


def is_net(thing):
    """Whether the thing, which may be anything, is a net."""
    if not isinstance(thing, tuple):
        return False
    many = len(thing)
    if many < 1 or many > MOST_LAMPS:
        return False
    return all(is_lamp_of_many(lamp, many) for lamp in thing)


def need_net(net):
    """Refuse what is no net."""
    if not is_net(net):
        raise NoNet("this is no net")


def need_lamp(net, lamp):
    """Refuse what is no number of a lamp of the net."""
    if not is_number_of_many(lamp, len(net)):
        raise NoLamp("this is no number of a lamp of the net")


def is_kindling_of_many(thing, many):
    """Whether the thing is a kindling of a net of so many lamps."""
    if not is_pair(thing):
        return False
    beat, lamp = thing
    if not is_whole(beat) or beat < 0:
        return False
    return is_number_of_many(lamp, many)


def are_kindlings(net, thing):
    """Whether the thing, which may be anything, is kindlings of the net."""
    need_net(net)
    if not isinstance(thing, list) or len(thing) > MOST_KINDLINGS:
        return False
    many = len(net)
    return all(is_kindling_of_many(kindling, many) for kindling in thing)


def way_of(net, lamp):
    """The way of a lamp: the lamps that are come by once, and the ring behind them."""
    need_net(net)
    need_lamp(net, lamp)
    gone = []
    at = lamp
    while at is not None and at not in gone:
        gone.append(at)
        at = net[at][1]
    if at is None:
        return (tuple(gone), ())
    first = gone.index(at)
    return (tuple(gone[:first]), tuple(gone[first:]))


def rings(net):
    """All rings of the net, each from its least lamp on, rising."""
    need_net(net)
    found = []
    for lamp in range(len(net)):
        _, ring = way_of(net, lamp)
        # A ring is told once only: from the one lamp that is its least.
        if ring and lamp == min(ring):
            found.append(ring)
    return found


def lap_of(net, lamp):
    """The lap and the longest length of the ring to which the lamp leads, or None."""
    _, ring = way_of(net, lamp)
    if not ring:
        return None
    lengths = [net[at][0] for at in ring]
    return (sum(lengths), max(lengths))
