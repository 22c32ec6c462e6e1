"""markpause.heap: the collector, piece by piece (points 5 to 8)."""

import unittest

from markpause.errors import NoBox
from markpause.heap import Heap
from markpause.reaching import reach


def built(rows, keep):
    """A heap of 8 hands: box k has these slots, and hand k holds it if it is one to keep."""
    heap = Heap(8, 1000)
    for hand, row in enumerate(rows):
        heap.make(hand, len(row))
    for hand, row in enumerate(rows):
        for slot, other in enumerate(row):
            if other is not None:
                heap.put(hand, slot, other)
    for hand in range(len(rows)):
        if hand not in keep:
            heap.drop(hand)
    return heap


def chain(length):
    """A heap whose hand 0 holds the last box made; each leads to the one made ahead of it."""
    heap = Heap(2, 1000)
    heap.make(0, 1)
    for _ in range(length - 1):
        heap.make(1, 1)
        heap.put(1, 0, 0)
        heap.share(0, 1)
    heap.drop(1)
    return heap


class CollectorCase(unittest.TestCase):
    def check(self, heap, phase, marked, waiting, rounds=0):
        got = (heap.phase(), heap.marked(), heap.waiting(), heap.rounds())
        self.assertEqual(got, (phase, marked, waiting, rounds))

    def check_pieces(self, heap, *wanted):
        """One piece after the other: what each frees, and how the collector stands then."""
        for at, (freed, *state) in enumerate(wanted):
            self.assertEqual(heap.work(1), freed, at)
            self.check(heap, *state)


class Idle(CollectorCase):
    def test_a_new_heap_is_idle(self):
        self.check(Heap(1, 1), "idle", [], [])

    def test_deeds_begin_no_round(self):
        heap = built([[1, None], [1], []], [0, 2])
        heap.take(3, 0, 0)
        heap.put(0, 0, 4)
        heap.share(5, 0)
        heap.drop(0)
        self.check(heap, "idle", [], [])

    def test_no_pieces_begin_no_round(self):
        heap = built([[1], []], [0])
        self.assertEqual(heap.work(0), [])
        self.check(heap, "idle", [], [])


class BeginningARound(CollectorCase):
    def test_those_held_are_marked_and_wait(self):
        heap = built([[1], [], [], []], [0, 2])
        self.check_pieces(heap, ([], "marking", [0, 2], [0, 2]))

    def test_in_the_order_of_the_hands(self):
        heap = built([[], [], []], [0, 1, 2])
        heap.share(3, 0)
        heap.share(0, 2)
        # By now the hands hold 2, 1, 2 and 0.
        self.check_pieces(heap, ([], "marking", [0, 1, 2], [2, 1, 0]))

    def test_each_once(self):
        heap = built([[], []], [1])
        for hand in (0, 3, 7):
            heap.share(hand, 1)
        self.check_pieces(heap, ([], "marking", [1], [1]))

    def test_box_nought_is_not_taken_for_nothing(self):
        heap = built([[]], [0])
        self.check_pieces(heap, ([], "marking", [0], [0]))

    def test_all_eight_hands(self):
        heap = built([[]] * 8, range(8))
        self.check_pieces(heap, ([], "marking", list(range(8)), list(range(8))))

    def test_a_single_hand(self):
        heap = Heap(1, 3)
        heap.make(0, 1)
        heap.put(0, 0, 0)
        self.check_pieces(
            heap,
            ([], "marking", [0], [0]),
            ([], "sweeping", [0], []),
            ([], "idle", [], [], 1),
        )


class Marking(CollectorCase):
    def test_the_slots_in_their_order_behind_the_others(self):
        heap = built([[4, None, 3], [5], [], [6], [], [], []], [0, 1])
        self.check_pieces(
            heap,
            ([], "marking", [0, 1], [0, 1]),
            ([], "marking", [0, 1, 3, 4], [1, 4, 3]),
            ([], "marking", [0, 1, 3, 4, 5], [4, 3, 5]),
            ([], "marking", [0, 1, 3, 4, 5], [3, 5]),
            ([], "marking", [0, 1, 3, 4, 5, 6], [5, 6]),
            ([], "marking", [0, 1, 3, 4, 5, 6], [6]),
            ([], "sweeping", [0, 1, 3, 4, 5, 6], []),
        )

    def test_all_four_slots(self):
        heap = built([[4, 2, 3, 1], [], [], [], []], [0])
        self.check_pieces(
            heap,
            ([], "marking", [0], [0]),
            ([], "marking", [0, 1, 2, 3, 4], [4, 2, 3, 1]),
        )

    def test_the_same_box_in_several_slots_waits_once(self):
        heap = built([[1, 1], [2, 2, 0], [2]], [0])
        self.check_pieces(
            heap,
            ([], "marking", [0], [0]),
            ([], "marking", [0, 1], [1]),
            ([], "marking", [0, 1, 2], [2]),
            ([], "sweeping", [0, 1, 2], []),
        )

    def test_a_box_in_its_own_slot(self):
        heap = built([[0, 1], [1]], [0])
        self.check_pieces(
            heap,
            ([], "marking", [0], [0]),
            ([], "marking", [0, 1], [1]),
            ([], "sweeping", [0, 1], []),
        )

    def test_a_ring(self):
        heap = built([[1], [2], [0], [4], [3]], [1])
        self.check_pieces(
            heap,
            ([], "marking", [1], [1]),
            ([], "marking", [1, 2], [2]),
            ([], "marking", [0, 1, 2], [0]),
            ([], "sweeping", [0, 1, 2], []),
        )
        self.assertEqual(heap.work(5), [3, 4])

    def test_a_box_is_looked_at_as_it_is_then(self):
        heap = built([[None], [None], []], [0, 1, 2])
        heap.drop(2)
        heap.work(1)
        heap.take(3, 0, 0)
        self.check(heap, "marking", [0, 1], [0, 1])
        # What is put into a slot ahead of the look is seen by the look.
        heap.put(1, 0, 0)
        heap.put(0, 0, 1)
        self.check_pieces(
            heap,
            ([], "marking", [0, 1], [1]),
            ([], "sweeping", [0, 1], []),
        )

    def test_a_new_box_in_a_slot_is_not_marked(self):
        heap = built([[None, 1], []], [0])
        heap.work(1)
        heap.make(3, 1)
        heap.put(0, 0, 3)
        self.assertEqual(heap.look(0), [2, 1])
        self.check_pieces(
            heap,
            ([], "marking", [0, 1], [1]),
            ([], "sweeping", [0, 1], []),
            ([], "sweeping", [0, 1], []),
            ([], "idle", [], [], 1),
        )
        self.assertEqual(heap.boxes(), [0, 1, 2])

    def test_an_old_box_in_a_new_one_is_marked_by_its_old_place(self):
        heap = built([[1], []], [0])
        heap.work(1)
        heap.make(3, 1)
        heap.take(4, 0, 0)
        heap.put(3, 0, 4)
        self.check(heap, "marking", [0], [0])
        self.check_pieces(heap, ([], "marking", [0, 1], [1]))


class Sweeping(CollectorCase):
    def test_by_rising_numbers_a_piece_each(self):
        heap = built([[], [0], [], [5], [], [], []], [3, 6])
        heap.work(4)
        self.check(heap, "sweeping", [3, 5, 6], [])
        self.check_pieces(
            heap,
            ([0], "sweeping", [3, 5, 6], []),
            ([1], "sweeping", [3, 5, 6], []),
            ([2], "sweeping", [3, 5, 6], []),
            ([], "sweeping", [3, 5, 6], []),
            ([4], "sweeping", [3, 5, 6], []),
            ([], "sweeping", [3, 5, 6], []),
            ([], "idle", [], [], 1),
        )
        self.assertEqual(heap.boxes(), [3, 5, 6])

    def test_a_freed_box_is_there_no_more(self):
        heap = built([[], []], [])
        self.assertEqual(heap.work(2), [0])
        self.assertEqual(heap.boxes(), [1])
        with self.assertRaises(NoBox):
            heap.look(0)
        self.assertEqual(heap.look(1), [])

    def test_freeing_changes_no_slot_and_no_hand(self):
        heap = built([[0], [0, 2, None], [1], [3]], [3])
        heap.share(5, 3)
        heap.work(2)
        self.assertEqual(heap.work(1), [0])
        self.assertEqual(heap.look(1), [0, 2, None])
        self.assertEqual(heap.look(2), [1])
        self.assertEqual(heap.work(1), [1])
        self.assertEqual(heap.look(2), [1])
        self.assertEqual(heap.look(3), [3])
        self.assertEqual([heap.held(hand) for hand in range(8)], [None] * 3 + [3, None, 3, None, None])

    def test_a_new_box_is_not_looked_at(self):
        heap = built([[], []], [0])
        heap.work(2)
        self.assertEqual(heap.phase(), "sweeping")
        heap.make(4, 0)
        heap.drop(4)
        self.check_pieces(
            heap,
            ([], "sweeping", [0], []),
            ([1], "idle", [], [], 1),
        )
        self.assertEqual(heap.boxes(), [0, 2])

    def test_a_ring_that_is_lost_is_freed(self):
        heap = built([[1], [2, 1], [0]], [])
        self.assertEqual(heap.work(4), [0, 1, 2])
        self.assertEqual(heap.boxes(), [])


class EndsWithoutAPiece(CollectorCase):
    def test_a_round_over_no_boxes(self):
        heap = Heap(3, 4)
        self.check_pieces(
            heap,
            ([], "idle", [], [], 1),
            ([], "idle", [], [], 2),
        )
        self.assertEqual(heap.work(5), [])
        self.check(heap, "idle", [], [], 7)

    def test_a_round_over_no_boxes_any_more(self):
        heap = built([[], [0]], [])
        self.assertEqual(heap.work(3), [0, 1])
        self.check(heap, "idle", [], [], 1)
        self.assertEqual(heap.work(1), [])
        self.check(heap, "idle", [], [], 2)

    def test_marking_ends_with_the_piece_that_begins_the_round(self):
        heap = built([[1], [], []], [])
        self.check_pieces(
            heap,
            ([], "sweeping", [], []),
            ([0], "sweeping", [], []),
            ([1], "sweeping", [], []),
            ([2], "idle", [], [], 1),
        )

    def test_a_box_made_in_a_round_over_no_boxes_falls_into_the_next(self):
        heap = Heap(1, 2)
        heap.work(1)
        heap.make(0, 0)
        self.check_pieces(
            heap,
            ([], "marking", [0], [0], 1),
            ([], "sweeping", [0], [], 1),
            ([], "idle", [], [], 2),
        )


class PutsWhileMarking(CollectorCase):
    def setUp(self):
        # Both 0 and 1 wait when the round has begun; 2 and 3 aren't marked, 4 is lost.
        self.heap = built([[2, None], [None, 3], [], [2], []], [0, 1])
        self.heap.work(1)
        self.check(self.heap, "marking", [0, 1], [0, 1])

    def test_what_stood_there_is_marked_and_waits_behind_the_others(self):
        self.heap.put(0, 0, 1)
        self.check(self.heap, "marking", [0, 1, 2], [0, 1, 2])
        self.heap.put(1, 1, 5)
        self.check(self.heap, "marking", [0, 1, 2, 3], [0, 1, 2, 3])
        self.assertEqual((self.heap.look(0), self.heap.look(1)), ([1, None], [None, None]))

    def test_in_the_order_of_the_puts(self):
        self.heap.put(1, 1, 5)
        self.heap.put(0, 0, 5)
        self.check(self.heap, "marking", [0, 1, 2, 3], [0, 1, 3, 2])
        self.assertEqual(self.heap.work(9), [4])
        self.assertEqual(self.heap.boxes(), [0, 1, 2, 3])

    def test_the_same_box_over_itself(self):
        self.heap.take(5, 0, 0)
        self.heap.put(0, 0, 5)
        self.check(self.heap, "marking", [0, 1, 2], [0, 1, 2])
        self.assertEqual(self.heap.look(0), [2, None])

    def test_over_nothing(self):
        self.heap.put(0, 1, 1)
        self.heap.put(1, 0, 0)
        self.check(self.heap, "marking", [0, 1], [0, 1])

    def test_what_is_put_is_not_marked(self):
        self.heap.take(5, 0, 0)
        self.heap.put(0, 1, 5)
        self.heap.put(1, 0, 5)
        self.check(self.heap, "marking", [0, 1], [0, 1])

    def test_over_a_marked_box_that_waits(self):
        self.heap.put(0, 1, 1)
        self.heap.put(0, 1, 5)
        self.check(self.heap, "marking", [0, 1], [0, 1])

    def test_over_a_marked_box_that_was_looked_at(self):
        self.heap.put(1, 0, 0)
        self.heap.work(1)
        self.check(self.heap, "marking", [0, 1, 2], [1, 2])
        self.heap.put(1, 0, 5)
        self.check(self.heap, "marking", [0, 1, 2], [1, 2])

    def test_over_a_new_box(self):
        self.heap.make(5, 1)
        self.heap.put(0, 1, 5)
        self.heap.put(0, 1, 6)
        self.heap.put(5, 0, 5)
        self.heap.put(5, 0, 6)
        self.check(self.heap, "marking", [0, 1], [0, 1])

    def test_in_a_new_box_over_an_old_one(self):
        self.heap.make(5, 1)
        self.heap.take(6, 0, 0)
        self.heap.put(5, 0, 6)
        self.check(self.heap, "marking", [0, 1], [0, 1])
        self.heap.put(5, 0, 7)
        self.check(self.heap, "marking", [0, 1, 2], [0, 1, 2])

    def test_twice_over_the_same_box(self):
        self.heap.take(5, 0, 0)
        self.heap.put(0, 1, 5)
        self.heap.put(0, 0, 6)
        self.heap.put(0, 1, 6)
        self.check(self.heap, "marking", [0, 1, 2], [0, 1, 2])

    def test_a_box_put_out_of_sight_is_kept(self):
        # 0 is looked at; then what only 1 leads to is laid into 0, and taken from 1.
        self.heap.work(1)
        self.heap.take(5, 1, 1)
        self.heap.put(0, 1, 5)
        self.heap.drop(5)
        self.heap.put(1, 1, 5)
        self.assertEqual(self.heap.work(9), [4])
        self.assertEqual(self.heap.look(0), [2, 3])
        self.assertEqual(self.heap.look(3), [2])

    def test_a_put_while_idle_marks_nothing(self):
        heap = built([[1], []], [0])
        heap.put(0, 0, 5)
        self.check(heap, "idle", [], [])
        self.assertEqual(heap.work(4), [1])

    def test_a_put_between_rounds_marks_nothing(self):
        heap = built([[1], []], [0])
        heap.work(5)
        self.check(heap, "idle", [], [], 1)
        heap.put(0, 0, 5)
        self.check(heap, "idle", [], [], 1)
        self.assertEqual(heap.work(4), [1])

    def test_a_put_while_sweeping_marks_nothing(self):
        heap = built([[1], [], []], [0])
        heap.work(3)
        self.check(heap, "sweeping", [0, 1], [])
        heap.put(0, 0, 5)
        heap.make(6, 1)
        heap.put(6, 0, 0)
        heap.put(6, 0, 5)
        self.check(heap, "sweeping", [0, 1], [])
        self.assertEqual(heap.work(3), [2])
        self.check(heap, "idle", [], [], 1)
        # Nothing leads to 1 by now: the next round frees it.
        self.assertEqual(heap.work(6), [1])


class OtherDeedsMarkNothing(CollectorCase):
    def check_all(self, heap, *state):
        heap.take(4, 0, 0)
        self.check(heap, *state)
        heap.share(5, 4)
        self.check(heap, *state)
        heap.make(6, 1)
        self.check(heap, *state)
        heap.drop(5)
        self.check(heap, *state)
        heap.drop(1)
        self.check(heap, *state)
        heap.make(4, 0)
        self.check(heap, *state)
        heap.take(0, 0, 0)
        self.check(heap, *state)
        heap.share(6, 3)
        self.check(heap, *state)

    def test_while_marking(self):
        heap = built([[2], [], [3], [], []], [0, 1])
        heap.work(1)
        self.check_all(heap, "marking", [0, 1], [0, 1])
        # All that could be come to when the round began is kept, though no hand holds 0 and 1 now.
        self.assertEqual(heap.work(9), [4])
        self.check(heap, "idle", [], [], 1)
        # Hand 0 holds 2, which leads to 3, and hand 4 holds 6.
        self.assertEqual(heap.work(10), [0, 1, 5])
        self.check(heap, "idle", [], [], 2)
        self.assertEqual(heap.boxes(), [2, 3, 6])

    def test_while_sweeping(self):
        heap = built([[2], [], [3], [], []], [0, 1])
        heap.work(5)
        self.check(heap, "sweeping", [0, 1, 2, 3], [])
        self.check_all(heap, "sweeping", [0, 1, 2, 3], [])
        self.assertEqual(heap.work(5), [4])
        self.check(heap, "idle", [], [], 1)
        self.assertEqual(heap.work(10), [0, 1, 5])
        self.check(heap, "idle", [], [], 2)

    def test_a_drop_of_the_last_hand_keeps_what_waits(self):
        heap = built([[1], []], [0])
        heap.work(1)
        heap.drop(0)
        self.check_pieces(
            heap,
            ([], "marking", [0, 1], [1]),
            ([], "sweeping", [0, 1], []),
            ([], "sweeping", [0, 1], []),
            ([], "idle", [], [], 1),
            ([], "sweeping", [], [], 1),
            ([0], "sweeping", [], [], 1),
            ([1], "idle", [], [], 2),
        )

    def test_made_and_lost_while_marking(self):
        heap = built([[None]], [0])
        heap.work(1)
        heap.make(1, 0)
        heap.drop(1)
        self.assertEqual(heap.work(2), [])
        self.check(heap, "idle", [], [], 1)
        self.assertEqual(heap.boxes(), [0, 1])
        self.assertEqual(heap.work(4), [1])


class SeveralRounds(CollectorCase):
    def test_within_one_call(self):
        heap = built([[]], [0])
        # Each round takes three pieces: to begin, to look while marking, and while sweeping.
        self.assertEqual(heap.work(2500), [])
        self.check(heap, "marking", [0], [0], 833)

    def test_in_the_order_of_their_freeing(self):
        heap = built([[], [], []], [0, 1])
        heap.work(1)
        heap.drop(0)
        heap.make(0, 0)
        heap.drop(0)
        # The round that goes on frees 2 alone; the next one frees 0 and the new box 3.
        self.assertEqual(heap.work(2 + 3 + 1 + 1 + 3), [2, 0, 3])
        self.check(heap, "idle", [], [], 2)

    def test_one_call_or_many(self):
        whole, parts = (built([[1, 2], [2], [], [3], [3]], [0, 2]) for _ in range(2))
        freed = []
        for pieces in (0, 1, 2, 3, 0, 5, 1, 8):
            freed.extend(parts.work(pieces))
        self.assertEqual(whole.work(20), freed)
        self.assertEqual((whole.phase(), whole.marked(), whole.waiting(), whole.rounds()),
                         (parts.phase(), parts.marked(), parts.waiting(), parts.rounds()))

    def test_marks_are_forgotten(self):
        heap = built([[1], []], [0])
        heap.work(5)
        self.check(heap, "idle", [], [], 1)
        heap.drop(0)
        # With the marks of the first round these would be kept.
        self.assertEqual(heap.work(3), [0, 1])
        self.check(heap, "idle", [], [], 2)

    def test_what_was_new_is_old_in_the_next_round(self):
        heap = built([[None]], [0])
        heap.work(1)
        heap.make(1, 0)
        heap.put(0, 0, 1)
        heap.drop(1)
        heap.work(2)
        self.check_pieces(
            heap,
            ([], "marking", [0], [0], 1),
            ([], "marking", [0, 1], [1], 1),
            ([], "sweeping", [0, 1], [], 1),
            ([], "sweeping", [0, 1], [], 1),
            ([], "idle", [], [], 2),
        )


class PiecesOfARound(CollectorCase):
    def check_round(self, heap, rows, starts):
        come_to = reach(rows, starts)
        lost = [box for box in range(len(rows)) if box not in come_to]
        pieces = 1 + len(come_to) + len(rows)
        self.assertEqual(heap.work(pieces - 1), lost if len(rows) - 1 in come_to else lost[:-1])
        self.assertNotEqual(heap.phase(), "idle")
        heap.work(1)
        self.check(heap, "idle", [], [], 1)
        self.assertEqual(heap.boxes(), come_to)

    def test_of_small_heaps(self):
        rows = [[1, 2], [3], [3, 3], [None, 0], [4, 5], [1], []]
        for bits in range(128):
            starts = [box for box in range(7) if bits >> box & 1]
            self.check_round(built(rows, starts), rows, starts)

    def test_of_long_chains(self):
        for length in (1, 2, 500, 1000):
            rows = [[None]] + [[box] for box in range(length - 1)]
            self.check_round(chain(length), rows, [length - 1])

    def test_a_long_chain_that_is_lost(self):
        heap = chain(1000)
        heap.drop(0)
        self.assertEqual(heap.work(1001), list(range(1000)))
        self.check(heap, "idle", [], [], 1)

    def test_a_long_chain_waits_one_by_one(self):
        heap = chain(1000)
        heap.work(1)
        for box in range(999, 0, -1):
            self.assertEqual(heap.waiting(), [box])
            heap.work(1)
        self.check(heap, "marking", list(range(1000)), [0])


if __name__ == "__main__":
    unittest.main()
