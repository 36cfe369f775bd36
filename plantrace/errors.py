"""The errors that the program raises, each directly under PlantError."""


class PlantError(ValueError):
    """The base class of all errors."""


class BadPlant(PlantError):
    """A plant is not right; the buffer is its least wrong one."""

    def __init__(self, buffer):
        super().__init__(f"buffer {buffer} is wrong")
        self.buffer = buffer


class BadBill(PlantError):
    """A bill of materials is not right; the item is its least wrong one."""

    def __init__(self, item):
        super().__init__(f"item {item} is wrong")
        self.item = item


class BoundedCurve(PlantError):
    """A curve is bounded where an unbounded one is needed."""


class TooMuch(PlantError):
    """More cycles or units than the program works out."""


class TooLarge(PlantError):
    """A curve with more increments than the program works out."""


class CannotRun(PlantError):
    """A run for which too few units wait; the event is its place, from 0."""

    def __init__(self, event):
        super().__init__(f"event {event} cannot be made")
        self.event = event


class NoSuchUnit(PlantError):
    """A unit of a buffer that does not exist."""

    def __init__(self, buffer, unit):
        super().__init__(f"buffer {buffer} has no unit {unit}")
        self.buffer = buffer
        self.unit = unit


class NotConvergent(PlantError):
    """A plant is not convergent; the stage is the least one at which it fails."""

    def __init__(self, stage):
        super().__init__(f"the plant is not convergent at stage {stage}")
        self.stage = stage


class NothingToUndo(PlantError):
    """More events are to be undone than were applied."""
