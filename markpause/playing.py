"""Written deeds, played one by one on a new heap."""

from markpause.errors import NoDeed, NoHand, NoRoom, NoSlot, NothingHeld, NoWork
from markpause.heap import Heap
from markpause.notes import read


def make(heap, hand, slots):
    box = heap.make(hand, slots)
    return f"box {box}"


def take(heap, hand, other, slot):
    heap.take(hand, other, slot)
    return holds(heap, hand)


def put(heap, hand, slot, other):
    heap.put(hand, slot, other)
    return "done"


def share(heap, hand, other):
    heap.share(hand, other)
    return holds(heap, hand)


def drop(heap, hand):
    heap.drop(hand)
    return "done"


def work(heap, pieces):
    freed = heap.work(pieces)
    if not freed:
        return "freed none"
    numbers = " ".join([str(box) for box in freed])
    return f"freed {numbers}"


def holds(heap, hand):
    box = heap.held(hand)
    if box is None:
        return "holds nothing"
    return f"holds {box}"


ACTIONS = {"make": make, "take": take, "put": put, "share": share, "drop": drop, "work": work}


def done(heap, line):
    """Does the deed that the line writes; the answer where nothing is refused."""
    deed = read(line)
    action = ACTIONS[deed[0]]
    numbers = deed[1:]
    return action(heap, *numbers)


def answered(heap, line):
    """The answer to a line, whether it is done or refused."""
    try:
        return done(heap, line)
    except NoHand:
        return "no hand"
    except NoSlot:
        return "no slot"
    except NoRoom:
        return "no room"
    except NothingHeld:
        return "nothing held"
    except NoWork:
        return "no work"
    except NoDeed:
        return "no deed"


def played(hands, room, lines):
    """The answers to the lines, played on a new heap."""
    heap = Heap(hands, room)
    return [answered(heap, line) for line in lines]
