"""The refusals that several files share."""

from emberlane.errors import NoBeat, NoKindlings, NoRing
from emberlane.nets import are_kindlings, is_kindling_of_many, is_whole, need_net, way_of


def need_kindling(net, kindling):
    """Refuse what is no net, then what is no kindling of it."""
    need_net(net)
    if not is_kindling_of_many(kindling, len(net)):
        raise NoKindlings("this is no kindling of the net")


def need_kindlings(net, kindlings):
    """Refuse what is no net, then what is no kindlings of it."""
    if not are_kindlings(net, kindlings):
        raise NoKindlings("these are no kindlings of the net")


def need_beat(beat):
    """Refuse what is no beat from 0 on."""
    if not is_whole(beat) or beat < 0:
        raise NoBeat("this is no beat from 0 on")


def need_ring(net, lamp):
    """Refuse what is no number of a lamp of the net, then a lamp of no ring."""
    ahead, _ = way_of(net, lamp)
    # The way of a lamp of a ring has nothing ahead of that: each other lamp is itself the first one ahead.
    if ahead:
        raise NoRing("this lamp is of no ring")
