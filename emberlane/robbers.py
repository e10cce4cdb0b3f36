"""Who robs whom, and what a net comes to without some of its flames."""

from emberlane.errors import NoFlame
from emberlane.fates import losses
from emberlane.needs import need_kindlings
from emberlane.nets import is_number_of_many


def robbers_of(net, kindlings):
    """For each flame that is lost the one to which it is lost: a dict."""
    return {flame: other for _, _, flame, other in losses(net, kindlings)}


def robbed(net, kindlings):
    """For each flame the list of those that are lost to it, rising."""
    robbers = robbers_of(net, kindlings)
    told = [[] for _ in kindlings]
    for flame in sorted(robbers):
        told[robbers[flame]].append(flame)
    return told


def root_of(net, kindlings, flame):
    """The flame itself, if it is never lost, else the root of the one to which it is lost."""
    need_kindlings(net, kindlings)
    if not is_number_of_many(flame, len(kindlings)):
        raise NoFlame("this is no flame's number")
    robbers = robbers_of(net, kindlings)
    at = flame
    while at in robbers:
        at = robbers[at]
    return at


def idle(net, kindlings):
    """The flames to which none is lost, rising."""
    told = []
    for flame, lost in enumerate(robbed(net, kindlings)):
        if not lost:
            told.append(flame)
    return told


def are_flames(thing, many):
    """Whether the thing, which may be anything, is a list of numbers of so many flames, rising, none twice."""
    if not isinstance(thing, list) or not all(is_number_of_many(flame, many) for flame in thing):
        return False
    return all(thing[at - 1] < thing[at] for at in range(1, len(thing)))


def without(net, kindlings, flames):
    """The kindlings without those of these flames."""
    need_kindlings(net, kindlings)
    if not are_flames(flames, len(kindlings)):
        raise NoFlame("this is no list of unlike numbers of flames, rising")
    return [kindling for flame, kindling in enumerate(kindlings) if flame not in flames]


def lasting(net, kindlings):
    """The kindlings of the flames that are never lost."""
    robbers = robbers_of(net, kindlings)
    return [kindling for flame, kindling in enumerate(kindlings) if flame not in robbers]
