"""markpause.heap: hands, boxes, the program's deeds and what is refused (points 1 to 4 and 9)."""

import copy
import unittest

from markpause.errors import NoBox, NoHand, NoHeap, NoRoom, NoSlot, NothingHeld, NoWork
from markpause.heap import Heap

FAR = (10 ** 29, -10 ** 29, 10 ** 30, -10 ** 30, 10 ** 60, -10 ** 60)


def every_box(heap):
    return {box: heap.look(box) for box in heap.boxes()}


class HeapCase(unittest.TestCase):
    def check_refused(self, kind, heap, name, *told):
        """The deed is refused with just this kind, and the heap is as it was to the last part."""
        before = copy.deepcopy(vars(heap))
        with self.assertRaises(kind) as caught:
            getattr(heap, name)(*told)
        self.assertIs(type(caught.exception), kind, (name, told))
        self.assertEqual(vars(heap), before, (name, told))


class ANewHeap(HeapCase):
    def test_all_counts_of_hands(self):
        for hands in range(1, 9):
            heap = Heap(hands, 5)
            self.assertEqual([heap.held(hand) for hand in range(hands)], [None] * hands)
            self.check_refused(NoHand, heap, "held", hands)

    def test_no_boxes_are_there(self):
        heap = Heap(3, 5)
        self.assertEqual(heap.boxes(), [])
        self.check_refused(NoBox, heap, "look", 0)

    def test_least_and_most_room(self):
        self.assertEqual(Heap(1, 1).make(0, 0), 0)
        self.assertEqual(Heap(8, 1000).make(7, 4), 0)

    def test_other_counts_are_no_heap(self):
        for hands, room in ((0, 5), (9, 5), (-1, 5), (3, 0), (3, 1001), (3, -1), (0, 0), (9, 1001), (0, 1001),
                            *((far, 5) for far in FAR), *((3, far) for far in FAR)):
            with self.assertRaises(NoHeap) as caught:
                Heap(hands, room)
            self.assertIs(type(caught.exception), NoHeap)

    def test_two_heaps_share_nothing(self):
        one, other = Heap(2, 5), Heap(2, 5)
        one.make(0, 2)
        one.work(1)
        self.assertEqual((other.boxes(), other.held(0), other.phase()), ([], None, "idle"))
        self.assertEqual(other.make(0, 0), 0)


class Make(HeapCase):
    def test_numbers_rise_from_nought(self):
        heap = Heap(2, 5)
        self.assertEqual([heap.make(hand, 1) for hand in (0, 0, 1, 0)], [0, 1, 2, 3])
        self.assertEqual(heap.boxes(), [0, 1, 2, 3])

    def test_the_hand_holds_the_new_box_and_no_other_hand_changes(self):
        heap = Heap(3, 5)
        heap.make(1, 2)
        self.assertEqual([heap.held(hand) for hand in range(3)], [None, 0, None])
        heap.make(1, 2)
        heap.make(2, 2)
        self.assertEqual([heap.held(hand) for hand in range(3)], [None, 1, 2])

    def test_nothing_stands_in_the_new_slots(self):
        heap = Heap(1, 9)
        for slots in range(5):
            box = heap.make(0, slots)
            self.assertEqual(heap.look(box), [None] * slots)

    def test_slots_are_each_boxes_own(self):
        heap = Heap(2, 9)
        heap.make(0, 2)
        heap.make(1, 2)
        heap.put(0, 1, 1)
        self.assertEqual(every_box(heap), {0: [None, 1], 1: [None, None]})

    def test_other_counts_of_slots(self):
        heap = Heap(2, 5)
        heap.make(1, 1)
        for slots in (-1, -2, -4, 5, 6, *FAR):
            self.check_refused(NoSlot, heap, "make", 0, slots)
        self.assertEqual(heap.make(0, 4), 1)

    def test_room_for_one(self):
        heap = Heap(2, 1)
        heap.make(0, 1)
        self.check_refused(NoRoom, heap, "make", 0, 1)
        self.check_refused(NoRoom, heap, "make", 1, 0)

    def test_room_for_a_thousand(self):
        heap = Heap(1, 1000)
        self.assertEqual([heap.make(0, 0) for _ in range(1000)], list(range(1000)))
        self.check_refused(NoRoom, heap, "make", 0, 0)
        self.assertEqual(heap.boxes(), list(range(1000)))
        # All but the last one are lost by now, and 2001 pieces end a round over so many.
        self.assertEqual(heap.work(2001), list(range(999)))
        self.assertEqual(heap.make(0, 0), 1000)

    def test_a_lost_box_takes_room_until_it_is_freed(self):
        heap = Heap(1, 1)
        heap.make(0, 1)
        heap.drop(0)
        self.check_refused(NoRoom, heap, "make", 0, 1)
        self.assertEqual(heap.work(1), [])
        self.check_refused(NoRoom, heap, "make", 0, 1)
        self.assertEqual(heap.work(1), [0])
        self.assertEqual(heap.make(0, 1), 1)

    def test_no_number_is_given_twice(self):
        heap = Heap(2, 3)
        heap.make(1, 1)
        for number in range(1, 40):
            self.assertEqual(heap.make(0, 1), number)
            heap.drop(0)
            self.assertEqual(heap.work(4), [number])
            self.check_refused(NoBox, heap, "look", number)
            self.assertEqual(heap.boxes(), [0])

    def test_a_refused_make_uses_no_number_up(self):
        heap = Heap(1, 2)
        heap.make(0, 0)
        self.check_refused(NoSlot, heap, "make", 0, 5)
        self.check_refused(NoHand, heap, "make", 1, 0)
        self.assertEqual(heap.make(0, 0), 1)


class Take(HeapCase):
    def setUp(self):
        # Hand 0 holds box 0 with [1, nothing, 0]; hand 1 holds box 1 with [2]; hand 2 nothing.
        heap = Heap(3, 9)
        heap.make(0, 3)
        heap.make(1, 1)
        heap.make(2, 0)
        heap.put(0, 0, 1)
        heap.put(0, 2, 0)
        heap.put(1, 0, 2)
        heap.drop(2)
        self.heap = heap
        self.rows = {0: [1, None, 0], 1: [2], 2: []}
        self.assertEqual(every_box(heap), self.rows)

    def check_hands(self, *wanted):
        self.assertEqual(tuple(self.heap.held(hand) for hand in range(3)), wanted)
        self.assertEqual(every_box(self.heap), self.rows)

    def test_from_another_hands_box(self):
        self.assertIsNone(self.heap.take(2, 1, 0))
        self.check_hands(0, 1, 2)

    def test_from_the_hands_own_box(self):
        self.heap.take(0, 0, 0)
        self.check_hands(1, 1, None)
        self.heap.take(0, 0, 0)
        self.check_hands(2, 1, None)

    def test_what_stands_in_its_own_slot(self):
        self.heap.take(0, 0, 2)
        self.check_hands(0, 1, None)
        self.heap.take(1, 0, 2)
        self.check_hands(0, 0, None)

    def test_nothing(self):
        self.heap.take(1, 0, 1)
        self.check_hands(0, None, None)
        self.heap.take(0, 0, 1)
        self.check_hands(None, None, None)

    def test_no_such_hand(self):
        for far in (-1, -3, 3, 4, *FAR):
            self.check_refused(NoHand, self.heap, "take", far, 0, 0)
            self.check_refused(NoHand, self.heap, "take", 0, far, 0)
            self.check_refused(NoHand, self.heap, "take", far, far, 0)

    def test_nothing_held(self):
        # The hand whose box's slot is told is the other one.
        for slot in (0, 5, -1, *FAR):
            self.check_refused(NothingHeld, self.heap, "take", 0, 2, slot)
            self.check_refused(NothingHeld, self.heap, "take", 2, 2, slot)

    def test_no_such_slot(self):
        for slot in (3, 4, -1, -3, *FAR):
            self.check_refused(NoSlot, self.heap, "take", 1, 0, slot)
            self.check_refused(NoSlot, self.heap, "take", 0, 0, slot)
        self.check_refused(NoSlot, self.heap, "take", 0, 1, 1)

    def test_a_box_without_slots(self):
        self.heap.take(2, 1, 0)
        for slot in (0, 1, -1):
            self.check_refused(NoSlot, self.heap, "take", 0, 2, slot)


class Put(HeapCase):
    def setUp(self):
        self.heap = Heap(3, 9)
        self.heap.make(0, 4)
        self.heap.make(1, 1)

    def test_what_another_hand_holds(self):
        self.assertIsNone(self.heap.put(0, 2, 1))
        self.assertEqual(every_box(self.heap), {0: [None, None, 1, None], 1: [None]})
        self.assertEqual([self.heap.held(hand) for hand in range(3)], [0, 1, None])

    def test_a_box_in_its_own_slot(self):
        self.heap.put(0, 3, 0)
        self.assertEqual(every_box(self.heap), {0: [None, None, None, 0], 1: [None]})

    def test_a_box_in_several_slots(self):
        for hand, slot in ((0, 0), (0, 1), (0, 3), (1, 0)):
            self.heap.put(hand, slot, 1)
        self.assertEqual(every_box(self.heap), {0: [1, 1, None, 1], 1: [1]})

    def test_over_what_stood_there(self):
        self.heap.put(0, 0, 1)
        self.heap.put(0, 0, 0)
        self.assertEqual(self.heap.look(0), [0, None, None, None])

    def test_nothing(self):
        self.heap.put(0, 0, 1)
        self.heap.put(0, 1, 1)
        self.assertIsNone(self.heap.put(0, 0, 2))
        self.assertEqual(self.heap.look(0), [None, 1, None, None])

    def test_no_such_hand(self):
        for far in (-1, -3, 3, *FAR):
            self.check_refused(NoHand, self.heap, "put", far, 0, 0)
            self.check_refused(NoHand, self.heap, "put", 0, 0, far)
            self.check_refused(NoHand, self.heap, "put", far, 0, far)

    def test_nothing_held(self):
        # The hand whose box's slot is told is the first one.
        for slot in (0, 7, -1, *FAR):
            self.check_refused(NothingHeld, self.heap, "put", 2, slot, 0)
            self.check_refused(NothingHeld, self.heap, "put", 2, slot, 2)

    def test_no_such_slot(self):
        for slot in (4, 5, -1, -4, *FAR):
            self.check_refused(NoSlot, self.heap, "put", 0, slot, 1)
            self.check_refused(NoSlot, self.heap, "put", 0, slot, 0)
        self.check_refused(NoSlot, self.heap, "put", 1, 1, 0)
        self.heap.make(2, 0)
        self.check_refused(NoSlot, self.heap, "put", 2, 0, 0)


class ShareAndDrop(HeapCase):
    def setUp(self):
        self.heap = Heap(3, 9)
        self.heap.make(0, 1)
        self.heap.make(1, 1)

    def check_hands(self, *wanted):
        self.assertEqual(tuple(self.heap.held(hand) for hand in range(3)), wanted)

    def test_share(self):
        self.assertIsNone(self.heap.share(2, 0))
        self.check_hands(0, 1, 0)
        self.heap.share(0, 1)
        self.check_hands(1, 1, 0)

    def test_share_of_nothing(self):
        self.heap.share(0, 2)
        self.check_hands(None, 1, None)

    def test_share_with_itself(self):
        self.heap.share(0, 0)
        self.heap.share(2, 2)
        self.check_hands(0, 1, None)

    def test_drop(self):
        self.assertIsNone(self.heap.drop(0))
        self.check_hands(None, 1, None)
        self.heap.drop(0)
        self.check_hands(None, 1, None)
        self.assertEqual(every_box(self.heap), {0: [None], 1: [None]})

    def test_no_such_hand(self):
        for far in (-1, -3, 3, *FAR):
            self.check_refused(NoHand, self.heap, "share", far, 0)
            self.check_refused(NoHand, self.heap, "share", 0, far)
            self.check_refused(NoHand, self.heap, "share", far, far)
            self.check_refused(NoHand, self.heap, "drop", far)
            self.check_refused(NoHand, self.heap, "held", far)


class TheFirstThatIsSo(HeapCase):
    """Where several things are wrong, the first of point 9 is told."""

    def setUp(self):
        # There is no room, hand 0 holds a box of one slot, and hand 1 holds nothing.
        self.heap = Heap(2, 1)
        self.heap.make(0, 1)

    def test_make(self):
        self.check_refused(NoHand, self.heap, "make", 2, 5)
        self.check_refused(NoHand, self.heap, "make", 2, 1)
        self.check_refused(NoHand, self.heap, "make", -1, -1)
        self.check_refused(NoSlot, self.heap, "make", 0, 5)
        self.check_refused(NoSlot, self.heap, "make", 1, -1)
        self.check_refused(NoRoom, self.heap, "make", 1, 4)

    def test_take(self):
        # Of two hands told either one may be wrong, though the other one holds nothing.
        self.check_refused(NoHand, self.heap, "take", 2, 1, 0)
        self.check_refused(NoHand, self.heap, "take", 2, 0, 9)
        self.check_refused(NoHand, self.heap, "take", 1, 2, 9)
        self.check_refused(NothingHeld, self.heap, "take", 0, 1, 9)
        self.check_refused(NoSlot, self.heap, "take", 1, 0, 1)

    def test_put(self):
        self.check_refused(NoHand, self.heap, "put", 1, 0, 2)
        self.check_refused(NoHand, self.heap, "put", 0, 9, 2)
        self.check_refused(NoHand, self.heap, "put", 2, 9, 1)
        self.check_refused(NothingHeld, self.heap, "put", 1, 9, 0)
        self.check_refused(NoSlot, self.heap, "put", 0, 1, 1)

    def test_refused_while_marking_and_while_sweeping(self):
        heap = Heap(3, 3)
        heap.make(0, 1)
        heap.make(1, 0)
        heap.put(0, 0, 1)
        heap.make(1, 0)
        heap.drop(1)
        for phase, pieces in (("marking", 1), ("sweeping", 2)):
            heap.work(pieces)
            self.assertEqual(heap.phase(), phase)
            self.check_refused(NoRoom, heap, "make", 1, 0)
            self.check_refused(NoHand, heap, "put", 0, 0, 3)
            self.check_refused(NothingHeld, heap, "put", 1, 0, 0)
            self.check_refused(NoSlot, heap, "put", 0, 1, 1)
            self.check_refused(NoHand, heap, "drop", 3)
            self.check_refused(NoWork, heap, "work", -1)
            self.check_refused(NoWork, heap, "work", 2501)


class BoxesThatAreNotThere(HeapCase):
    def test_never_made(self):
        heap = Heap(1, 9)
        heap.make(0, 1)
        for box in (1, 2, -1, *FAR):
            self.check_refused(NoBox, heap, "look", box)

    def test_freed(self):
        heap = Heap(2, 9)
        heap.make(0, 1)
        heap.make(1, 1)
        heap.drop(0)
        self.assertEqual(heap.look(0), [None])
        self.assertEqual(heap.work(4), [0])
        self.check_refused(NoBox, heap, "look", 0)
        self.assertEqual(every_box(heap), {1: [None]})


class CountsOfPieces(HeapCase):
    def test_out_of_bounds(self):
        heap = Heap(1, 9)
        heap.make(0, 1)
        for pieces in (-1, -2, -2500, 2501, 2502, *FAR):
            self.check_refused(NoWork, heap, "work", pieces)

    def test_nought_and_the_most(self):
        heap = Heap(1, 9)
        before = copy.deepcopy(vars(heap))
        self.assertEqual(heap.work(0), [])
        self.assertEqual(vars(heap), before)
        self.assertEqual(heap.work(2500), [])
        self.assertEqual(heap.rounds(), 2500)


class ListsHandedOut(unittest.TestCase):
    """Changing what was handed out changes nothing of the heap (point 1)."""

    def spoil(self, heap, ask):
        """Spoils the list that ask() gives; it must give the same again, in a new list."""
        before = copy.deepcopy(vars(heap))
        first = ask()
        self.assertIs(type(first), list)
        wanted = list(first)
        first.append(99)
        first.reverse()
        first.clear()
        self.assertEqual(vars(heap), before)
        second = ask()
        self.assertIsNot(first, second)
        self.assertEqual(second, wanted)
        return wanted

    def test_at_each_piece_of_several_rounds(self):
        heap = Heap(3, 9)
        heap.make(0, 2)
        heap.make(1, 1)
        heap.put(0, 1, 1)
        heap.make(2, 0)
        heap.put(1, 0, 2)
        heap.make(2, 0)
        heap.drop(2)
        met = {}
        for _ in range(20):
            heap.look(0)
            for box in heap.boxes():
                self.spoil(heap, lambda box=box: heap.look(box))
            for name in ("boxes", "marked", "waiting"):
                if self.spoil(heap, getattr(heap, name)):
                    met[name] = True
            freed = heap.work(1)
            self.assertIs(type(freed), list)
            after = copy.deepcopy(vars(heap))
            freed.append(7)
            freed.clear()
            self.assertEqual(vars(heap), after)
        self.assertEqual(sorted(met), ["boxes", "marked", "waiting"])
        self.assertEqual(heap.boxes(), [0, 1, 2])

    def test_what_work_gave_stays_as_it_is(self):
        heap = Heap(1, 9)
        heap.make(0, 0)
        heap.drop(0)
        first = heap.work(2)
        heap.make(0, 0)
        heap.drop(0)
        second = heap.work(2)
        self.assertEqual((first, second), ([0], [1]))
        nothing = heap.work(0)
        nothing.append(5)
        self.assertEqual(heap.work(0), [])

    def test_what_was_looked_at_stays_as_it_is(self):
        heap = Heap(1, 9)
        heap.make(0, 2)
        row, boxes = heap.look(0), heap.boxes()
        heap.put(0, 0, 0)
        heap.make(0, 0)
        self.assertEqual((row, boxes), ([None, None], [0]))


if __name__ == "__main__":
    unittest.main()
