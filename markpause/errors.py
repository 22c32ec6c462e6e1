"""The errors by which the program refuses what it is told."""


class HeapError(ValueError):
    """Any refusal."""


class NoHand(HeapError):
    """There is no such hand."""


class NoSlot(HeapError):
    """A new box can't have so many slots, or a box has no such slot."""


class NoRoom(HeapError):
    """As many boxes are there as there is room for."""


class NothingHeld(HeapError):
    """The hand whose box's slot is told holds nothing."""


class NoBox(HeapError):
    """The box is not there: it was never made, or it was freed."""


class NoWork(HeapError):
    """The collector can't be asked for so many pieces."""


class NoHeap(HeapError):
    """A heap can't have so many hands, or so much room."""


class NoDeed(HeapError):
    """The text writes no deed."""
