"""The refusals of the package."""


class EmberError(ValueError):
    """Any refusal."""


class NoNet(EmberError):
    """A net was asked for, and what was handed in is none."""


class NoKindlings(EmberError):
    """Kindlings were asked for, and what was handed in is none."""


class NoLamp(EmberError):
    """A lamp's number was asked for, and what was handed in is none."""


class NoFlame(EmberError):
    """A flame's number was asked for, and what was handed in is none."""


class NoBeat(EmberError):
    """A beat, or a number of beats to go, was asked for, and what was handed in is none."""


class NoNumber(EmberError):
    """A count was asked for, and what was handed in is none."""


class NoRing(EmberError):
    """A lamp of a ring was asked for, and the lamp is of none."""


class NoPart(EmberError):
    """A lamp can not be parted, or put together with its next, as was asked."""


class NoText(EmberError):
    """A text is no story; row is the number, from 1, of the first row with which none goes on."""

    def __init__(self, row):
        super().__init__(f"no story goes on with row {row}")
        self.row = row
