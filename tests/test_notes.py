"""markpause.notes: written deeds (point 10)."""

import itertools
import unittest

from markpause.errors import NoDeed
from markpause.notes import read, told

COUNTS = {"make": 2, "take": 3, "put": 3, "share": 2, "drop": 1, "work": 1}
PAIRS = (
    (("make", 0, 4), "make 0 4"),
    (("take", 1, 2, 3), "take 1 2 3"),
    (("put", 7, 0, 10), "put 7 0 10"),
    (("share", 0, 0), "share 0 0"),
    (("drop", 5), "drop 5"),
    (("work", 2500), "work 2500"),
)
SIXTY = "1" + "0" * 59


def each_number_as(figures):
    """For each word and each place of a number there: the text with these figures there."""
    for word, count in COUNTS.items():
        for place in range(count):
            numbers = ["1"] * count
            numbers[place] = figures
            yield " ".join([word, *numbers])


class Told(unittest.TestCase):
    def test_each_word(self):
        for deed, line in PAIRS:
            self.assertEqual(told(deed), line)

    def test_long_numbers(self):
        self.assertEqual(told(("drop", 10 ** 59)), f"drop {SIXTY}")
        self.assertEqual(told(("put", 9, 10 ** 30, 0)), "put 9 1" + "0" * 30 + " 0")

    def test_somewhat_beyond_sixty_figures(self):
        self.assertEqual(told(("work", 10 ** 60)), f"work {SIXTY}0")


class Read(unittest.TestCase):
    def test_each_word(self):
        for deed, line in PAIRS:
            got = read(line)
            self.assertEqual(got, deed)
            self.assertEqual([type(got), type(got[0])], [tuple, str])
            self.assertEqual([type(part) for part in got[1:]], [int] * (len(deed) - 1))

    def test_numbers_are_not_held_against_any_heap(self):
        self.assertEqual(read("make 99 99"), ("make", 99, 99))
        self.assertEqual(read("work 99999"), ("work", 99999))

    def test_all_figures(self):
        self.assertEqual(read("take 1234567890 9 0"), ("take", 1234567890, 9, 0))

    def test_sixty_figures(self):
        for figures in (SIXTY, "9" * 60):
            for line in each_number_as(figures):
                self.assertEqual(told(read(line)), line)
                self.assertIn(int(figures), read(line))

    def test_there_and_back(self):
        for word, count in COUNTS.items():
            for numbers in itertools.product((0, 1, 9, 10, 2500, 10 ** 29, 10 ** 59), repeat=count):
                deed = (word, *numbers)
                self.assertEqual(read(told(deed)), deed)


class NoDeeds(unittest.TestCase):
    def check(self, *lines):
        for line in lines:
            with self.subTest(line=line), self.assertRaises(NoDeed) as caught:
                read(line)
            self.assertIs(type(caught.exception), NoDeed)

    def test_empty_and_blank(self):
        self.check("", " ", "  ", "\n", "0", "1 2", " 0")

    def test_other_words(self):
        self.check("Make 0 1", "MAKE 0 1", "mak 0 1", "makes 0 1", "give 0 1", "held 0", "look 0", "none 0",
                   "m\u0430ke 0 1", "work1", "drop0 0", "make0 1", "boxes", "phase", "0 make 1")

    def test_other_counts_of_numbers(self):
        for word, count in COUNTS.items():
            for other in range(6):
                line = " ".join([word] + ["0"] * other)
                if other == count:
                    self.assertEqual(read(line), (word,) + (0,) * other)
                else:
                    self.check(line)

    def test_blanks_too_many_or_too_few(self):
        for _, line in PAIRS:
            self.check(" " + line, line + " ", "  " + line, line + "  ", line.replace(" ", ""))
            for at, sign in enumerate(line):
                if sign == " ":
                    self.check(line[:at] + " " + line[at:], line[:at] + line[at + 1:])

    def test_line_ends_tabs_and_other_blanks_anywhere(self):
        others = "\n\r\t\v\f\0\x1c\x1d\x1e\x1f\x85\u00a0\u2003\u2028\u2029\u200b\u3000\ufeff"
        for _, line in PAIRS:
            for other in others:
                for at in range(len(line) + 1):
                    self.check(line[:at] + other + line[at:])
                self.check(line.replace(" ", other))

    def test_other_signs_anywhere(self):
        for _, line in PAIRS:
            for other in "+-_.,;:x#'\"()a\u00e9\ud800":
                for at in range(len(line) + 1):
                    self.check(line[:at] + other + line[at:])

    def test_signs_ahead_of_a_number(self):
        for figures in ("+1", "-1", "-0", "+0", "--1", "~1"):
            self.check(*each_number_as(figures))

    def test_noughts_ahead(self):
        for figures in ("00", "01", "000", "0012", "0" * 60, "0" + "1" * 59):
            self.check(*each_number_as(figures))

    def test_sixty_one_figures_and_more(self):
        for many in (61, 62, 100, 640, 4301, 20000):
            self.check(*each_number_as("1" * many))

    def test_other_ways_to_write_numbers(self):
        for figures in ("", "1_0", "0x1", "1e3", "1.0", "1.", "one", "None", "True", "1l", "0b1", "0o7", "A"):
            self.check(*each_number_as(figures))

    def test_figures_of_other_scripts(self):
        # Arabic, Devanagari, full-width and mathematical ones, superscript, circled, fraction, Roman.
        for figure in "\u0661\u0663\u0967\uff11\U0001d7cf\u00b2\u2460\u00bd\u2164\u4e00\u0660":
            self.check(*each_number_as(figure), *each_number_as("1" + figure), *each_number_as(figure + "1"))

    def test_lists_of_deeds(self):
        self.check("drop 0\ndrop 0", "drop 0 drop 0", "drop 0;drop 0", '("drop", 0)')


if __name__ == "__main__":
    unittest.main()
