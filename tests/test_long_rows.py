"""Long rows of deeds and pieces, held against a plain second reckoning of points 2 to 9."""

import unittest

from markpause import errors
from markpause.heap import Heap
from markpause.notes import read, told
from markpause.playing import played

REFUSED = {"NoHand": "no hand", "NoSlot": "no slot", "NoRoom": "no room",
           "NothingHeld": "nothing held", "NoWork": "no work"}


class Reckoning:
    """The document's words, one by one, with no thought of speed."""

    def __init__(self, hands, room):
        self.hands = [None] * hands
        self.room = room
        self.boxes = {}
        self.next_number = 0
        self.phase = "idle"
        self.rounds = 0
        self.marked = set()
        self.waiting = []
        self.old = set()
        self.swept = set()
        # For point 8: what is to be freed in this round, what was, and how many pieces it takes.
        self.lost = set()
        self.freed_in_round = []
        self.pieces_left = 0

    def come_to(self):
        found = set(self.hands) - {None}
        while True:
            more = {inner for box in found for inner in self.boxes[box]} - {None} - found
            if not more:
                return found
            found |= more

    def wrong(self, deed):
        """The answer of what is refused, or None."""
        word, *numbers = deed
        if word == "work":
            return None if numbers[0] in range(2501) else "no work"
        hands = {"make": numbers[:1], "take": numbers[:2], "put": numbers[::2],
                 "share": numbers, "drop": numbers}[word]
        if any(hand not in range(len(self.hands)) for hand in hands):
            return "no hand"
        if word == "make":
            if numbers[1] not in range(5):
                return "no slot"
            return "no room" if len(self.boxes) == self.room else None
        if word in ("take", "put"):
            hand, slot = (numbers[1], numbers[2]) if word == "take" else (numbers[0], numbers[1])
            if self.hands[hand] is None:
                return "nothing held"
            if slot not in range(len(self.boxes[self.hands[hand]])):
                return "no slot"
        return None

    def answer(self, deed):
        return self.wrong(deed) or getattr(self, deed[0])(*deed[1:])

    def holds(self, hand):
        return "holds nothing" if self.hands[hand] is None else f"holds {self.hands[hand]}"

    def make(self, hand, slots):
        self.boxes[self.next_number] = [None] * slots
        self.hands[hand] = self.next_number
        self.next_number += 1
        return f"box {self.hands[hand]}"

    def take(self, hand, other, slot):
        self.hands[hand] = self.boxes[self.hands[other]][slot]
        return self.holds(hand)

    def put(self, hand, slot, other):
        row = self.boxes[self.hands[hand]]
        if self.phase == "marking" and row[slot] is not None:
            self.mark(row[slot])
        row[slot] = self.hands[other]
        return "done"

    def share(self, hand, other):
        self.hands[hand] = self.hands[other]
        return self.holds(hand)

    def drop(self, hand):
        self.hands[hand] = None
        return "done"

    def work(self, pieces):
        freed = []
        for _ in range(pieces):
            freed += self.piece()
        return " ".join(["freed", *map(str, freed or ["none"])])

    def mark(self, box):
        if box in self.old and box not in self.marked:
            self.marked.add(box)
            self.waiting.append(box)

    def piece(self):
        freed = []
        if self.phase == "idle":
            self.phase = "marking"
            self.old = set(self.boxes)
            self.lost = self.old - self.come_to()
            self.pieces_left = 1 + len(self.come_to()) + len(self.old)
            for box in self.hands:
                self.mark(box)
        elif self.phase == "marking":
            for inner in self.boxes[self.waiting.pop(0)]:
                self.mark(inner)
        else:
            box = min(self.old - self.swept)
            self.swept.add(box)
            if box not in self.marked:
                del self.boxes[box]
                freed = [box]
        self.pieces_left -= 1
        self.freed_in_round += freed
        self.go_on()
        return freed

    def go_on(self):
        if self.phase == "marking" and not self.waiting:
            self.phase = "sweeping"
        if self.phase == "sweeping" and self.swept == self.old:
            # Point 8, of the reckoning itself: if this fails, the reckoning is not the document's.
            assert self.freed_in_round == sorted(self.lost) and self.pieces_left == 0
            self.phase = "idle"
            self.rounds += 1
            self.marked, self.old, self.swept, self.freed_in_round = set(), set(), set(), []


class Chances:
    """Numbers that look like chance and are the same in each run."""

    def __init__(self, seed):
        self.state = seed

    def below(self, limit):
        self.state = (self.state * 6364136223846793005 + 1442695040888963407) % 2 ** 64
        return (self.state >> 33) % limit

    def one_of(self, things):
        return things[self.below(len(things))]


def hand_of(chances, hands):
    """A hand; now and then one that isn't there."""
    return hands if chances.below(60) == 0 else chances.below(hands)


def slot_of(chances):
    return chances.below(6) if chances.below(15) == 0 else chances.below(4)


def slots_of(chances):
    return chances.one_of((0, 1, 2, 3, 4, 4, 4, 4, 4, 4, 4, 5))


def work_of(chances):
    return ("work", chances.one_of((0, 1, 1, 1, 1, 1, 1, 2, 2, 3, 5, 8, 30)))


def stray(chances, reckoning):
    """A deed that aims at nothing."""
    hands = len(reckoning.hands)
    word = chances.one_of(("make", "take", "take", "put", "put", "put", "share", "drop"))
    hand, other = hand_of(chances, hands), hand_of(chances, hands)
    if hand == 0 and word != "put" and chances.below(8):
        hand = hands - 1  # hand 0 keeps its box for long, lest nearly all boxes be lost at any time
    yield {
        "make": (word, hand, slots_of(chances)),
        "take": (word, hand, other, slot_of(chances)),
        "put": (word, hand, slot_of(chances), other),
        "share": (word, hand, other),
        "drop": (word, hand),
    }[word]


def slots_held(reckoning, hand, full):
    """The slots of the hand's box in which something stands, or those in which nothing does."""
    row = reckoning.boxes.get(reckoning.hands[hand], [])
    return [slot for slot, box in enumerate(row) if (box is not None) == full]


def walk(chances, reckoning, hand):
    """From what hand 0 holds the hand goes some steps down."""
    yield ("share", hand, 0)
    for _ in range(chances.below(8)):
        inner = slots_held(reckoning, hand, full=True)
        if inner:
            yield ("take", hand, hand, chances.one_of(inner))


def lay(chances, reckoning):
    """What the last hand holds is laid somewhere below hand 0; over another box only now and then."""
    yield from walk(chances, reckoning, 1)
    free = slots_held(reckoning, 1, full=False)
    if free:
        yield ("put", 1, chances.one_of(free), len(reckoning.hands) - 1)
    elif chances.below(10) == 0:
        yield ("put", 1, slot_of(chances), len(reckoning.hands) - 1)


def grow(chances, reckoning):
    if reckoning.hands[0] is None:
        yield ("make", 0, 4)
    yield ("make", len(reckoning.hands) - 1, slots_of(chances))
    yield from lay(chances, reckoning)


def cut(chances, reckoning):
    """What stands somewhere below hand 0 is put out, by what another hand holds or by nothing."""
    yield from walk(chances, reckoning, 1)
    yield ("put", 1, slot_of(chances), chances.below(len(reckoning.hands)))


def move(chances, reckoning):
    """What stands in one place is put out of it, and laid into another one."""
    last = len(reckoning.hands) - 1
    yield from walk(chances, reckoning, 1)
    inner = slots_held(reckoning, 1, full=True)
    if inner:
        slot = chances.one_of(inner)
        yield ("take", last, 1, slot)
        yield ("drop", 2)
        yield ("put", 1, slot, 2)
        yield from lay(chances, reckoning)


def some_deeds(chances, reckoning, busy, many):
    """So many deeds; the greater busy is, the more of them between two pieces of work."""
    given = 0
    while True:
        scripts = (grow,) * 5 + (move,) * 4 + (cut, stray) if len(reckoning.hands) > 3 else (stray,)
        for deed in chances.one_of(scripts)(chances, reckoning):
            for one in [deed] if chances.below(busy) else [work_of(chances), deed]:
                if given == many:
                    return
                given += 1
                yield one


def done(heap, deed):
    """The answer to a deed by the heap's own methods."""
    word, *numbers = deed
    try:
        gave = getattr(heap, word)(*numbers)
    except errors.HeapError as why:
        return REFUSED[type(why).__name__]
    if word == "make":
        return f"box {gave}"
    if word == "work":
        return " ".join(["freed", *map(str, gave or ["none"])])
    if gave is not None:
        return f"{word} gave {gave}"
    if word in ("take", "share"):
        box = heap.held(numbers[0])
        return "holds nothing" if box is None else f"holds {box}"
    return "done"


def seen(heap, hands):
    return {
        "hands": [heap.held(hand) for hand in range(hands)],
        "boxes": [(box, heap.look(box)) for box in heap.boxes()],
        "phase": heap.phase(),
        "marked": heap.marked(),
        "waiting": heap.waiting(),
        "rounds": heap.rounds(),
    }


def reckoned(reckoning):
    return {
        "hands": reckoning.hands,
        "boxes": sorted(reckoning.boxes.items()),
        "phase": reckoning.phase,
        "marked": sorted(reckoning.marked),
        "waiting": reckoning.waiting,
        "rounds": reckoning.rounds,
    }


class LongRows(unittest.TestCase):
    def check_row(self, hands, room, busy, seed, many, met):
        """A row of so many deeds; what was met in it is noted in met."""
        chances = Chances(seed)
        heap, reckoning = Heap(hands, room), Reckoning(hands, room)
        lines, answers = [], []
        for deed in some_deeds(chances, reckoning, busy, many):
            waited = len(reckoning.waiting)
            answer = reckoning.answer(deed)
            if deed[0] == "put" and len(reckoning.waiting) > waited:
                met["puts that mark"] = met.get("puts that mark", 0) + 1
            where = (hands, room, seed, len(lines), deed)
            self.assertEqual(done(heap, deed), answer, where)
            self.assertEqual(seen(heap, hands), reckoned(reckoning), where)
            lines.append(told(deed))
            answers.append(answer)
            self.assertEqual(read(lines[-1]), deed)
            met[answer if answer in REFUSED.values() else deed[0], reckoning.phase] = True
        self.assertEqual(played(hands, room, lines), answers)

    def test_heaps_of_all_kinds(self):
        met = {}
        for seed in range(12):
            for hands, room, busy, many in (
                (8, 60, 9, 1200), (5, 30, 9, 1200), (4, 12, 9, 1200), (6, 40, 2, 600),
                (1, 6, 3, 300), (2, 8, 3, 300),  # few hands
                (4, 1, 4, 300), (3, 2, 4, 300),  # little room
            ):
                self.check_row(hands, room, busy, seed, many, met)
        # The rows are worth little if they pass by what is to be held against the reckoning.
        self.assertGreater(met["puts that mark"], 50)
        for kind in ("make", "take", "put", "share", "drop", "no hand", "no slot", "nothing held", "no room"):
            for phase in ("idle", "marking", "sweeping"):
                self.assertIn((kind, phase), met)

    def test_a_thousand_boxes(self):
        chances = Chances(7)
        heap, reckoning = Heap(8, 1000), Reckoning(8, 1000)
        for at, deed in enumerate(some_deeds(chances, reckoning, 10 ** 6, 9000)):
            self.assertEqual(done(heap, deed), reckoning.answer(deed), at)
        for pieces in (1, 100, 0, 900, 2500):
            self.assertEqual(done(heap, ("work", pieces)), reckoning.answer(("work", pieces)))
            self.assertEqual(seen(heap, 8), reckoned(reckoning))


if __name__ == "__main__":
    unittest.main()
