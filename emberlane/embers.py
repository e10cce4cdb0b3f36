"""The walk through a net beat by beat."""

from emberlane.errors import NoBeat
from emberlane.nets import is_whole, need_lamp, need_net

MOST_BEATS = 400


class Embers:
    """A net that is gone through beat by beat: all dark, ahead of beat 0, at first."""

    def __init__(self, net):
        need_net(net)
        self._net = net
        self._beat = 0
        self._flames = 0
        self._waiting = []
        # For each lamp None, or its flame and the beat at which it was lit.
        self._lights = [None for _ in net]
        self._rows = []

    def kindle(self, lamp):
        """Kindle a lamp at the coming beat; told is the number of its flame."""
        need_lamp(self._net, lamp)
        flame = self._flames
        self._waiting.append((flame, lamp))
        self._flames += 1
        return flame

    def go(self, *, beats=1):
        """Go so many beats; told is what happened at them."""
        if not is_whole(beats) or beats < 1 or beats > MOST_BEATS:
            raise NoBeat("this is no number of beats that can be gone")
        told = []
        for _ in range(beats):
            told.extend(self._go_on())
        self._rows.extend(told)
        return told

    def coming(self):
        """The coming beat."""
        return self._beat

    def burning(self):
        """What burns at the beat gone last: for each lamp None, or its flame and how long ago it was lit."""
        gone_last = self._beat - 1
        told = []
        for light in self._lights:
            if light is None:
                told.append(None)
            else:
                flame, lit_at = light
                told.append((flame, gone_last - lit_at))
        return told

    def happened(self):
        """All that happened so far."""
        return list(self._rows)

    def _go_on(self):
        """Go the coming beat; told is what happened at it."""
        comers = [[] for _ in self._net]
        rows = self._darken(comers)
        for flame, lamp in self._waiting:
            comers[lamp].append(flame)
        self._waiting = []
        for lamp, flames in enumerate(comers):
            rows.extend(self._meet(lamp, sorted(flames)))
        self._beat += 1
        return rows

    def _darken(self, comers):
        """Let each lamp whose length is over go dark; its flame goes to the comers of its next, or ends."""
        ended = []
        for lamp, (length, onward) in enumerate(self._net):
            light = self._lights[lamp]
            if light is None or light[1] + length > self._beat:
                continue
            self._lights[lamp] = None
            if onward is None:
                ended.append(("ended", self._beat, lamp, light[0]))
            else:
                comers[onward].append(light[0])
        return ended

    def _meet(self, lamp, flames):
        """Let the flames, rising, come to the lamp; told is which one lights it and which are lost."""
        rows = []
        lost = flames
        if flames and self._lights[lamp] is None:
            # All lamps that go dark at this beat are dark by now, so the least number is the only thing that counts.
            self._lights[lamp] = (flames[0], self._beat)
            rows.append(("lit", self._beat, lamp, flames[0]))
            lost = flames[1:]
        for flame in lost:
            rows.append(("lost", self._beat, lamp, flame, self._lights[lamp][0]))
        return rows
