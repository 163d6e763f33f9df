"""The refusals, one class each.

The words of those with a field are fixed: what was asked for may be a thing
of any kind, and not every thing can be written out.
"""


class HallError(ValueError):
    """Any refusal."""


class NoNumber(HallError):
    """What ought to be a number is none, or none that can be taken."""


class NoName(HallError):
    """What ought to be a name is none, or is taken already."""


class NoChance(HallError):
    """Chances that are none, or don't come to 1."""


class NoShare(HallError):
    """A share that is not from nought to below 1."""


class NoText(HallError):
    """What ought to be a text is none."""


class NoRow(HallError):
    """A row that is none of those that may stand there; row is its number, or None."""

    def __init__(self, row):
        HallError.__init__(self, "no such row may stand here")
        self.row = row


class NoRoom(HallError):
    """No room has the number or the name that was asked for; room is what was asked for."""

    def __init__(self, room):
        HallError.__init__(self, "there is no such room")
        self.room = room


class NoDoor(HallError):
    """No door of the room has the name that was asked for; door is what was asked for."""

    def __init__(self, door):
        HallError.__init__(self, "the room has no such door")
        self.door = door


class NoPlan(HallError):
    """What ought to be a plan is none; room is the first room that it doesn't fit, or None."""

    def __init__(self, room):
        HallError.__init__(self, "this is no plan of the hall")
        self.room = room
