"""The refusals of the package."""


class DoorError(ValueError):
    """Any refusal."""


class BadMemory(DoorError):
    """No memory, or no count of cells that a memory has."""


class BadProgram(DoorError):
    """No program: door is 0 for the left one, 1 for the right one; place is that of the first deed that is none."""

    def __init__(self, door, place):
        DoorError.__init__(self, f"door {door}: no deed of a program at place {place}")
        self.door = door
        self.place = place


class BadRule(DoorError):
    """No rule."""


class BadOrder(DoorError):
    """No order of the deeds of two programs."""


class TooMany(DoorError):
    """More deeds than can be put in order."""


class BadText(DoorError):
    """No text of two programs: row and place are those of the first word that is none."""

    def __init__(self, row, place):
        DoorError.__init__(self, f"row {row}: no word of a program at place {place}")
        self.row = row
        self.place = place
