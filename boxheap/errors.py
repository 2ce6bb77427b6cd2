"""The refusals of the program."""


class HeapError(ValueError):
    """Any refusal."""


class NoRoom(HeapError):
    """What was handed in as a room is none."""


class NoTable(HeapError):
    """What was handed in as a table is none of the room."""


class NoPlace(HeapError):
    """No box may be put on the place, or taken from it."""


class NoLanes(HeapError):
    """The texts are not the lanes of a table or a family of the room."""


class NoFloor(HeapError):
    """The tiles do not cover just the ground, each triangle once."""
