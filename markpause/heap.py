"""The heap: hands, boxes, and the collector that goes on a piece at a time."""

from markpause.errors import NoBox, NoHand, NoHeap, NoRoom, NoSlot, NothingHeld, NoWork

MOST_HANDS = 8
MOST_ROOM = 1000
MOST_SLOTS = 4
MOST_PIECES = 2500


class Heap:
    """The boxes that a program holds by its hands, and the collector of those that it lost."""

    def __init__(self, hands, room):
        if not 1 <= hands <= MOST_HANDS:
            raise NoHeap("a heap has 1 to 8 hands")
        if not 1 <= room <= MOST_ROOM:
            raise NoHeap("a heap has room for 1 to 1000 boxes")
        self._hands = [None] * hands
        self._room = room
        self._rows = {}  # for each box that is there: what stands in its slots
        self._made = 0
        self._ended = 0
        # What the collector knows of its round. Its phase is not kept beside these but told
        # by them: so marking and sweeping end by themselves as soon as nothing is left to do.
        self._old = {}
        self._marks = {}
        self._line = []  # the boxes that wait
        self._unswept = []  # the old boxes not yet looked at in sweeping, rising

    # The program's deeds. All that may be refused is asked for before anything is changed.

    def make(self, hand, slots):
        """A new box for the hand; its number."""
        self._need_hand(hand)
        if not 0 <= slots <= MOST_SLOTS:
            raise NoSlot("a box has 0 to 4 slots")
        if len(self._rows) >= self._room:
            raise NoRoom("there is no room for one more box")
        box = self._made
        self._made += 1
        self._rows[box] = [None] * slots
        self._hands[hand] = box
        return box

    def take(self, hand, other, slot):
        """The hand holds then what stands in the slot of the other's box."""
        self._need_hand(hand)
        self._need_hand(other)
        row = self._row_with(other, slot)
        self._hands[hand] = row[slot]

    def put(self, hand, slot, other):
        """In the slot of the hand's box stands then what the other hand holds."""
        self._need_hand(hand)
        self._need_hand(other)
        row = self._row_with(hand, slot)
        if self.phase() == "marking":
            # The program may have what stood here in a hand alone, where marking won't look.
            self._mark(row[slot])
        row[slot] = self._hands[other]

    def share(self, hand, other):
        """The hand holds then what the other one holds."""
        self._need_hand(hand)
        self._need_hand(other)
        self._hands[hand] = self._hands[other]

    def drop(self, hand):
        """The hand holds nothing then."""
        self._need_hand(hand)
        self._hands[hand] = None

    # What is there.

    def held(self, hand):
        """The number of the box that the hand holds, or None."""
        self._need_hand(hand)
        return self._hands[hand]

    def look(self, box):
        """What stands in the slots of the box."""
        if box not in self._rows:
            raise NoBox("there is no such box")
        return list(self._rows[box])

    def boxes(self):
        """The numbers of all boxes that are there, rising."""
        return sorted(self._rows)

    # The collector.

    def work(self, pieces):
        """Does so many pieces; the numbers of the boxes freed by them, in that order."""
        if not 0 <= pieces <= MOST_PIECES:
            raise NoWork("0 to 2500 pieces can be done at once")
        freed = []
        for _ in range(pieces):
            box = self._do_piece()
            if box is not None:
                freed.append(box)
        return freed

    def phase(self):
        """Where the collector is in its round."""
        if self._line:
            return "marking"
        if self._unswept:
            return "sweeping"
        return "idle"

    def marked(self):
        """The numbers of all marked boxes, rising."""
        return sorted(self._marks)

    def waiting(self):
        """The numbers of the boxes that wait, the one that has waited longest first."""
        return list(self._line)

    def rounds(self):
        """How many rounds have ended."""
        return self._ended

    def _do_piece(self):
        """One piece of any kind; the number of the box that it freed, or None."""
        freed = None
        phase = self.phase()
        if phase == "idle":
            self._begin_round()
        elif phase == "marking":
            self._mark_on()
        else:
            freed = self._sweep_on()
        # Asked after every piece, since a round over no boxes ends with the one that begins it.
        if not self._unswept:
            self._end_round()
        return freed

    def _begin_round(self):
        self._unswept = sorted(self._rows)
        self._old = {box: True for box in self._unswept}
        for box in self._hands:
            self._mark(box)

    def _mark_on(self):
        box = self._line.pop(0)
        for inner in self._rows[box]:
            self._mark(inner)

    def _sweep_on(self):
        box = self._unswept.pop(0)
        if box in self._marks:
            return None
        del self._rows[box]
        return box

    def _end_round(self):
        self._old = {}
        self._marks = {}
        self._ended += 1

    def _mark(self, box):
        """Marks what stands or is held somewhere, if it is an old box without a mark."""
        # None, for nothing, is never among the old ones.
        if box in self._old and box not in self._marks:
            self._marks[box] = True
            self._line.append(box)

    # What deeds are refused for.

    def _need_hand(self, hand):
        if not 0 <= hand < len(self._hands):
            raise NoHand("there is no such hand")

    def _row_with(self, hand, slot):
        """The slots of the box that the hand holds, if there is such a slot among them."""
        box = self._hands[hand]
        if box is None:
            raise NothingHeld("the hand holds nothing")
        row = self._rows[box]
        if not 0 <= slot < len(row):
            raise NoSlot("the box has no such slot")
        return row
