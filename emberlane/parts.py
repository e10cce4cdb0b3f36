"""Nets with a lamp parted, or put together with its next, and whether nobody is lost at a lamp."""

from emberlane.errors import NoPart
from emberlane.fates import losses
from emberlane.needs import need_kindlings
from emberlane.nets import MOST_LAMPS, is_whole, need_lamp, need_net


def parted(net, lamp, part):
    """The net with the lamp parted: it keeps the part of its length, a new last lamp has what is left."""
    need_net(net)
    need_lamp(net, lamp)
    length, onward = net[lamp]
    if not is_whole(part) or part < 1 or part >= length:
        raise NoPart("this is no part of the lamp's length")
    if len(net) == MOST_LAMPS:
        raise NoPart("the net has no place for a lamp more")
    lamps = list(net)
    lamps[lamp] = (part, len(net))
    lamps.append((length - part, onward))
    return tuple(lamps)


def need_next_of_its_own(net, lamp):
    """Refuse a lamp that has no next, is its own next, or has a next to which another one leads."""
    onward = net[lamp][1]
    if onward is None or onward == lamp:
        raise NoPart("the lamp has no next but itself")
    if any(at != lamp and net[at][1] == onward for at in range(len(net))):
        raise NoPart("another lamp leads to the lamp's next")


def number_without(lamp, gone):
    """The number of a lamp, or None, in the net without the lamp that is gone."""
    if lamp is None or lamp < gone:
        return lamp
    return lamp - 1


def together(net, lamp):
    """The net with the lamp put together with its next."""
    need_net(net)
    need_lamp(net, lamp)
    need_next_of_its_own(net, lamp)
    length, gone = net[lamp]
    lamps = list(net)
    lamps[lamp] = (length + net[gone][0], net[gone][1])
    del lamps[gone]
    return tuple((burns, number_without(onward, gone)) for burns, onward in lamps)


def none_lost_at(net, kindlings, lamp):
    """Whether nobody is lost at the lamp."""
    need_kindlings(net, kindlings)
    need_lamp(net, lamp)
    return all(at != lamp for _, at, _, _ in losses(net, kindlings))
