"""markpause.reaching: which places can be come to (points 1 and 4)."""

import copy
import inspect
import itertools
import unittest

from markpause import reaching
from markpause.reaching import reach


def by_the_words(rows, starts):
    """Point 4 word for word: mark what a marked place leads to, until nothing changes."""
    come_to = [place in starts for place in range(len(rows))]
    changed = True
    while changed:
        changed = False
        for place, row in enumerate(rows):
            for other in row:
                if come_to[place] and other is not None and not come_to[other]:
                    come_to[other] = True
                    changed = True
    return [place for place in range(len(rows)) if come_to[place]]


class TheInterface(unittest.TestCase):
    def test_reach_is_defined_in_its_file_with_its_arguments(self):
        self.assertEqual(reaching.reach.__module__, "markpause.reaching")
        self.assertEqual(list(inspect.signature(reach).parameters), ["rows", "starts"])

    def test_arguments_may_be_told_by_name(self):
        self.assertEqual(reach(starts=[0], rows=[[1], [], []]), [0, 1])

    def test_the_answer_is_a_list_of_integers(self):
        answer = reach([[1], [None, 0]], [1])
        self.assertIs(type(answer), list)
        self.assertEqual([type(place) for place in answer], [int, int])


class WhatIsReached(unittest.TestCase):
    def check(self, rows, starts, wanted):
        self.assertEqual(reach(rows, starts), wanted)

    def test_no_rows_and_no_starts(self):
        self.check([], [], [])

    def test_rows_but_no_starts(self):
        self.check([[1], [0], [2]], [], [])

    def test_a_start_told_twice(self):
        self.check([[], [2], []], [1, 1], [1, 2])

    def test_a_start_with_an_empty_row(self):
        self.check([[]], [0], [0])
        self.check([[1], [], [0]], [1], [1])

    def test_a_place_in_its_own_row(self):
        self.check([[0]], [0], [0])
        self.check([[1], [1, 2], []], [0], [0, 1, 2])

    def test_none_in_a_row(self):
        self.check([[None]], [0], [0])
        self.check([[None, 2, None, 1], [None], [None, None]], [0], [0, 1, 2])

    def test_place_nought_is_not_taken_for_nothing(self):
        self.check([[], [0], []], [1], [0, 1])
        self.check([[2], [], []], [0], [0, 2])

    def test_the_same_place_several_times_in_a_row(self):
        self.check([[1, 1, 1], [2, 0, 2, 0], []], [0], [0, 1, 2])

    def test_rings(self):
        self.check([[1], [0]], [0], [0, 1])
        self.check([[1], [0]], [1], [0, 1])
        self.check([[1], [2], [3], [0]], [2], [0, 1, 2, 3])

    def test_two_rings_that_meet(self):
        self.check([[1], [2], [0, 3], [4], [2]], [4], [0, 1, 2, 3, 4])

    def test_a_ring_that_nothing_leads_to(self):
        self.check([[1], [], [3], [2, 0]], [0], [0, 1])

    def test_places_that_cannot_be_come_to(self):
        # Nothing leads to place 2; place 3 stands in the row of place 2 only.
        self.check([[1], [], [3, 1], []], [0], [0, 1])

    def test_a_way_is_gone_in_its_own_direction_only(self):
        self.check([[1], [2], []], [1], [1, 2])
        self.check([[1], [2], []], [2], [2])

    def test_a_place_come_to_by_two_ways(self):
        self.check([[1, 2], [3], [3], [4], []], [0], [0, 1, 2, 3, 4])

    def test_several_starts(self):
        self.check([[], [3], [4], [], [], [5]], [2, 1], [1, 2, 3, 4])

    def test_a_start_that_another_start_leads_to(self):
        self.check([[1], [2], [], []], [0, 2], [0, 1, 2])
        self.check([[1], [2], [], []], [2, 0], [0, 1, 2])

    def test_rows_longer_than_a_box_has_slots(self):
        self.check([list(range(9, -1, -1))] + [[]] * 9, [0], list(range(10)))


class LongChains(unittest.TestCase):
    # More places than calls may be deep, so that a chain must not be followed by recursion.
    LENGTH = 3000

    def up(self, *steps):
        return [[at + step for step in steps if at + step < self.LENGTH] for at in range(self.LENGTH)]

    def down(self, *steps):
        return [[at - step for step in steps if at - step >= 0] for at in range(self.LENGTH)]

    def test_going_up(self):
        self.assertEqual(reach(self.up(1), [0]), list(range(self.LENGTH)))
        self.assertEqual(reach(self.up(1), [700]), list(range(700, self.LENGTH)))

    def test_going_down(self):
        self.assertEqual(reach(self.down(1), [self.LENGTH - 1]), list(range(self.LENGTH)))
        self.assertEqual(reach(self.down(1), [700]), list(range(701)))

    def test_to_the_one_behind_or_the_one_behind_that(self):
        # The ways here are far too many to go each of them.
        for steps in ((1, 2), (2, 1)):
            self.assertEqual(reach(self.up(*steps), [0]), list(range(self.LENGTH)))
            self.assertEqual(reach(self.down(*steps), [self.LENGTH - 1]), list(range(self.LENGTH)))

    def test_to_every_second_one(self):
        self.assertEqual(reach(self.up(2), [1]), list(range(1, self.LENGTH, 2)))

    def test_a_long_ring(self):
        ring = [[(at + 1) % self.LENGTH] for at in range(self.LENGTH)]
        self.assertEqual(reach(ring, [1234]), list(range(self.LENGTH)))


class RisingAndEachOnce(unittest.TestCase):
    def test_whatever_the_order_of_the_starts(self):
        rows = [[7], [0, 5], [1], [], [9, 6], [5], [2, None], [], [3], [4]]
        for starts in itertools.permutations([5, 8, 0, 9]):
            self.assertEqual(reach(rows, list(starts)), list(range(10)))

    def test_starts_that_lead_nowhere(self):
        for starts in itertools.permutations([5, 2, 9, 0]):
            self.assertEqual(reach([[] for _ in range(10)], list(starts)), [0, 2, 5, 9])

    def test_far_numbers(self):
        # So far apart that they would not come out of a set rising by chance.
        rows = [[(at * 389 + 17) % 2003] for at in range(2003)]
        answer = reach(rows, [1999, 3])
        self.assertEqual(answer, by_the_words(rows, [1999, 3]))
        self.assertEqual(answer, sorted(set(answer)))

    def test_all_rows_of_three_places(self):
        subsets = [[place for place in range(3) if bits >> place & 1] for bits in range(8)]
        for rows in itertools.product(subsets, repeat=3):
            for starts in subsets:
                self.assertEqual(reach(list(rows), starts), by_the_words(rows, starts), (rows, starts))

    def test_all_pairs_of_slots_of_three_places(self):
        slots = [list(pair) for pair in itertools.product((None, 0, 1, 2), repeat=2)]
        for rows in itertools.product(slots, repeat=3):
            for start in range(3):
                self.assertEqual(reach(list(rows), [start]), by_the_words(rows, [start]), (rows, start))


class NothingIsChanged(unittest.TestCase):
    def setUp(self):
        self.rows = [[2, None, 2], [], [0, 3], [3], [1]]
        self.starts = [3, 0, 3]
        self.wanted = [0, 2, 3]

    def test_rows_and_starts_stay_as_they_were(self):
        before = copy.deepcopy((self.rows, self.starts))
        row_objects = list(self.rows)
        self.assertEqual(reach(self.rows, self.starts), self.wanted)
        self.assertEqual((self.rows, self.starts), before)
        for now, then in zip(self.rows, row_objects, strict=True):
            self.assertIs(now, then)

    def test_the_answer_is_none_of_the_lists_handed_in(self):
        # In each of these the answer is equal to a list that was handed in.
        for rows, starts in (([], []), ([[0]], [0]), ([[0, 1], [0, 1]], [0, 1]), ([[], []], [])):
            answer = reach(rows, starts)
            for handed_in in (rows, starts, *rows):
                self.assertIsNot(answer, handed_in)

    def test_changing_the_answer_changes_nothing_handed_in(self):
        before = copy.deepcopy((self.rows, self.starts))
        answer = reach(self.rows, self.starts)
        answer.reverse()
        answer.append(99)
        self.assertEqual((self.rows, self.starts), before)

    def test_changing_the_answer_changes_no_second_answer(self):
        first = reach(self.rows, self.starts)
        first.clear()
        second = reach(self.rows, self.starts)
        self.assertIsNot(first, second)
        self.assertEqual(second, self.wanted)

    def test_changing_an_empty_answer_changes_no_second_answer(self):
        first = reach([], [])
        first.append(5)
        self.assertEqual(reach([], []), [])

    def test_a_second_call_sees_the_rows_as_they_are_then(self):
        reach(self.rows, self.starts)
        self.rows[3].append(4)
        self.assertEqual(reach(self.rows, self.starts), [0, 1, 2, 3, 4])
        self.rows[0].clear()
        self.assertEqual(reach(self.rows, [0]), [0])

    def test_the_starts_may_be_one_of_the_rows(self):
        rows = [[1, 2], [3], [], []]
        self.assertEqual(reach(rows, rows[0]), [1, 2, 3])
        self.assertEqual(rows, [[1, 2], [3], [], []])

    def test_one_list_may_be_the_row_of_several_places(self):
        row = [1, None, 0]
        self.assertEqual(reach([row, row, row], [2]), [0, 1, 2])
        self.assertEqual(row, [1, None, 0])


if __name__ == "__main__":
    unittest.main()
