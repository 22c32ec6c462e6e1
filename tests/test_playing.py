"""markpause.playing: written deeds, played and answered (points 9 to 11)."""

import unittest

from markpause.errors import NoHeap
from markpause.playing import played

SIXTY = "9" * 60


class PlayingCase(unittest.TestCase):
    def check(self, hands, room, *pairs):
        lines = [line for line, _ in pairs]
        before = list(lines)
        answers = played(hands, room, lines)
        self.assertEqual(answers, [answer for _, answer in pairs])
        self.assertEqual(lines, before)
        self.assertIsNot(answers, lines)


class Answers(PlayingCase):
    def test_no_lines(self):
        lines = []
        answers = played(1, 1, lines)
        self.assertEqual(answers, [])
        answers.append("more")
        self.assertEqual(lines, [])

    def test_the_deeds(self):
        self.check(
            3, 5,
            ("make 0 2", "box 0"),
            ("make 1 0", "box 1"),
            ("put 0 1 1", "done"),
            ("put 0 0 0", "done"),
            ("put 0 0 2", "done"),
            ("take 2 0 1", "holds 1"),
            ("take 2 0 0", "holds nothing"),
            ("share 2 0", "holds 0"),
            ("take 0 0 1", "holds 1"),
            ("share 1 2", "holds 0"),
            ("drop 2", "done"),
            ("drop 2", "done"),
            ("share 0 2", "holds nothing"),
            ("share 0 0", "holds nothing"),
            ("share 1 1", "holds 0"),
            ("take 1 1 0", "holds nothing"),
        )

    def test_the_hand_told_first(self):
        self.check(
            2, 5,
            ("make 0 1", "box 0"),
            ("make 1 1", "box 1"),
            ("put 1 0 0", "done"),
            ("take 1 1 0", "holds 0"),
            ("make 0 0", "box 2"),
            ("share 1 0", "holds 2"),
        )

    def test_work(self):
        self.check(
            2, 9,
            ("work 0", "freed none"),
            ("work 3", "freed none"),
            ("make 0 1", "box 0"),
            ("make 0 1", "box 1"),
            ("make 0 1", "box 2"),
            ("put 0 0 0", "done"),
            ("work 2", "freed none"),
            ("work 1", "freed 0"),
            ("drop 0", "done"),
            ("work 2", "freed 1"),
            ("work 2500", "freed 2"),
            ("make 1 4", "box 3"),
            ("work 2500", "freed none"),
        )

    def test_freed_in_their_order(self):
        self.check(
            2, 3,
            ("make 0 0", "box 0"),
            ("make 1 0", "box 1"),
            ("drop 1", "done"),
            ("work 1", "freed none"),
            ("drop 0", "done"),
            ("make 0 0", "box 2"),
            ("make 0 0", "no room"),
            ("drop 0", "done"),
            ("work 20", "freed 1 0 2"),
            ("make 0 0", "box 3"),
        )

    def test_over_two_figures(self):
        lines = ["make 0 0"] * 12 + ["drop 0", "work 13"]
        freed = "freed 0 1 2 3 4 5 6 7 8 9 10 11"
        self.assertEqual(played(1, 12, lines), [f"box {box}" for box in range(12)] + ["done", freed])

    def test_each_call_has_a_heap_of_its_own(self):
        lines = ["make 0 0", "work 1", "share 0 0"]
        for _ in range(3):
            self.assertEqual(played(1, 1, lines), ["box 0", "freed none", "holds 0"])


class Refusals(PlayingCase):
    def test_each_one(self):
        self.check(
            2, 2,
            ("make 2 0", "no hand"),
            ("drop 2", "no hand"),
            ("share 0 2", "no hand"),
            ("share 2 0", "no hand"),
            ("take 0 2 0", "no hand"),
            ("take 2 0 0", "no hand"),
            ("put 0 0 2", "no hand"),
            ("put 2 0 0", "no hand"),
            ("make 0 5", "no slot"),
            ("take 0 1 0", "nothing held"),
            ("put 1 0 0", "nothing held"),
            ("make 0 1", "box 0"),
            ("take 1 0 1", "no slot"),
            ("put 0 1 1", "no slot"),
            ("make 1 0", "box 1"),
            ("make 1 0", "no room"),
            ("work 2501", "no work"),
            ("work 2500", "freed none"),
            ("share 0 0", "holds 0"),
            ("share 1 1", "holds 1"),
        )

    def test_the_first_that_is_so(self):
        self.check(
            2, 1,
            ("make 0 1", "box 0"),
            ("make 5 5", "no hand"),
            ("make 0 5", "no slot"),
            ("make 0 4", "no room"),
            ("put 1 9 5", "no hand"),
            ("put 1 9 0", "nothing held"),
            ("take 0 1 9", "nothing held"),
            ("take 5 1 9", "no hand"),
        )

    def test_a_refused_line_changes_nothing(self):
        lines = ["make 0 1", "make 1 0", "put 0 0 1", "work 1", "drop 1", "put 0 0 1", "work 4", "drop 0", "work 9"]
        answers = ["box 0", "box 1", "done", "freed none", "done", "done", "freed none", "done", "freed 0 1"]
        self.assertEqual(played(2, 5, lines), answers)
        bad = {"no deed": "make 0  1", "no hand": "put 0 0 7", "no slot": "take 0 0 3", "no work": "work 2501"}
        for answer, line in bad.items():
            # Hand 0 holds a box ahead of each of these.
            for at in range(1, 8):
                got = played(2, 5, lines[:at] + [line] + lines[at:])
                self.assertEqual(got, answers[:at] + [answer] + answers[at:], (answer, at))

    def test_no_deed(self):
        for line in ("", " ", "make", "make 0", "make 0 1 2", "make 0 01", "make 0 -1", "drop  0", "drop 0 ", " drop 0",
                     "drop 0\n", "drop\t0", "Drop 0", "look 0", "drop +0", "drop \u0660", "work 1" + "0" * 60):
            self.check(2, 2, (line, "no deed"), ("make 0 0", "box 0"))

    def test_numbers_far_off(self):
        self.check(
            2, 2,
            ("make 0 4", "box 0"),
            (f"make {SIXTY} 0", "no hand"),
            (f"make 1 {SIXTY}", "no slot"),
            (f"take {SIXTY} 0 0", "no hand"),
            (f"take 0 {SIXTY} 0", "no hand"),
            (f"take 0 0 {SIXTY}", "no slot"),
            (f"take 0 1 {SIXTY}", "nothing held"),
            (f"put {SIXTY} 0 0", "no hand"),
            (f"put 0 {SIXTY} 0", "no slot"),
            (f"put 0 0 {SIXTY}", "no hand"),
            (f"share {SIXTY} 0", "no hand"),
            (f"share 0 {SIXTY}", "no hand"),
            (f"drop {SIXTY}", "no hand"),
            (f"work {SIXTY}", "no work"),
            (f"work {SIXTY}9", "no deed"),
            ("share 1 0", "holds 0"),
        )


class NoHeaps(unittest.TestCase):
    def test_other_counts(self):
        for hands, room in ((0, 1), (9, 1), (-1, 1), (1, 0), (1, 1001), (1, -1), (10 ** 29, 1), (1, -10 ** 29)):
            for lines in ([], ["make 0 0"], ["no deed at all"]):
                before = list(lines)
                with self.assertRaises(NoHeap) as caught:
                    played(hands, room, lines)
                self.assertIs(type(caught.exception), NoHeap)
                self.assertEqual(lines, before)

    def test_least_and_most(self):
        for hands, room in ((1, 1), (8, 1000), (1, 1000), (8, 1)):
            self.assertEqual(played(hands, room, [f"make {hands - 1} 0", f"drop {hands}"]), ["box 0", "no hand"])


if __name__ == "__main__":
    unittest.main()
