import inspect
import itertools
import unittest

from siblingshelf import notes
from siblingshelf.errors import BadNote, ShelfError
from siblingshelf.notes import read, written

FIGURES = "0123456789"
ASCII_SIGNS = [chr(code) for code in range(32, 127)]

# The greatest number of sixty figures, and the least one.
GREATEST = 10 ** 60 - 1
LEAST_OF_SIXTY = 10 ** 59

# Marks with their texts.
PAIRS = [
    ((0,), "0"),
    ((7,), "7"),
    ((10,), "10"),
    ((0, 0), "0 0"),
    ((3, 0, 12), "3 0 12"),
    ((100, 20, 3), "100 20 3"),
    ((1, 2, 3, 4, 5, 6, 7, 8, 9), "1 2 3 4 5 6 7 8 9"),
    ((0,) * 9, "0 0 0 0 0 0 0 0 0"),
    ((GREATEST,), "9" * 60),
    ((0, GREATEST, LEAST_OF_SIXTY), "0 " + "9" * 60 + " 1" + "0" * 59),
]


class InterfaceTest(unittest.TestCase):
    def test_names_and_arguments(self):
        for name, arguments in {"written": ["mark"], "read": ["line", "many"]}.items():
            with self.subTest(name=name):
                function = getattr(notes, name)
                self.assertEqual(list(inspect.signature(function).parameters), arguments)
                self.assertEqual(function.__module__, notes.__name__)

    def test_arguments_by_name(self):
        self.assertEqual(written(mark=(1, 2)), "1 2")
        self.assertEqual(read(line="1 2", many=2), (1, 2))


class WrittenTest(unittest.TestCase):
    def test_figures_with_one_blank_between(self):
        for mark, line in PAIRS:
            with self.subTest(line=line):
                told = written(mark)
                self.assertIs(type(told), str)
                self.assertEqual(told, line)

    def test_each_figure(self):
        for figure in range(10):
            self.assertEqual(written((figure, figure)), FIGURES[figure] + " " + FIGURES[figure])

    def test_any_count_of_figures(self):
        for figures in range(1, 61):
            self.assertEqual(written((10 ** (figures - 1), 5)), "1" + "0" * (figures - 1) + " 5")


class ReadTest(unittest.TestCase):
    def assert_read(self, line, many, mark):
        told = read(line, many)
        self.assertIs(type(told), tuple)
        self.assertEqual(told, mark)
        for number in told:
            self.assertIs(type(number), int)

    def assert_refused(self, line, many):
        with self.subTest(line=line, many=many):
            with self.assertRaises(ShelfError) as caught:
                read(line, many)
            self.assertIs(type(caught.exception), BadNote)

    def test_what_a_text_writes(self):
        for mark, line in PAIRS:
            with self.subTest(line=line):
                self.assert_read(line, len(mark), mark)

    def test_what_is_written_is_read_to_the_same_mark(self):
        numbers = [0, 1, 9, 10, 101, LEAST_OF_SIXTY, GREATEST]
        for many in range(1, 4):
            for mark in itertools.product(numbers, repeat=many):
                self.assert_read(written(mark), many, mark)
        for many in range(1, 10):
            self.assert_read(written((GREATEST,) * many), many, (GREATEST,) * many)

    def test_any_count_of_figures_up_to_sixty(self):
        for figures in range(1, 61):
            self.assert_read("8" * figures + " 0", 2, (int("8" * figures), 0))

    def test_the_empty_text(self):
        for many in range(1, 10):
            self.assert_refused("", many)

    def test_blanks_in_other_places(self):
        for line in [" ", "  ", " 1 2", "1 2 ", "1  2", " 1 2 ", "1 2  ", "  1 2"]:
            self.assert_refused(line, 2)
        for line in [" ", " 1", "1 ", "  1"]:
            self.assert_refused(line, 1)
        for line in ["1  2", " 1 2", "1 2 ", "1   "]:
            self.assert_refused(line, 3)

    def test_a_nought_ahead_of_other_figures(self):
        for number in ["00", "01", "09", "000", "010", "0" * 60, "0" + "1" * 59]:
            self.assert_refused(number, 1)
            self.assert_refused(number + " 0", 2)
            self.assert_refused("0 " + number, 2)
            self.assert_refused("1 " + number + " 1", 3)

    def test_other_ways_to_write_numbers(self):
        signed = ["-1", "+1", "-0", "+0", "-", "+"]
        for number in [*signed, "1_0", "1.0", "1.", "1e3", "0x1", "0b1", "1,0", "0,0", "one", "x", "A", "_", "."]:
            self.assert_refused(number, 1)
            self.assert_refused(number + " 0", 2)
            self.assert_refused("0 " + number, 2)

    def test_other_signs_between_the_numbers(self):
        for sign in ASCII_SIGNS:
            if sign not in FIGURES + " ":
                self.assert_refused("0" + sign + "0", 2)
                self.assert_refused("0 " + sign + " 0", 2)
                self.assert_refused("0 " + sign + "0", 2)
                self.assert_refused("0" + sign + " 0", 2)

    def test_other_signs_in_any_place(self):
        line = "12 0 345"
        for sign in ASCII_SIGNS:
            if sign not in FIGURES + " ":
                for place in range(len(line) + 1):
                    self.assert_refused(line[:place] + sign + line[place:], 3)
                    self.assert_refused(line[:place] + sign + line[place + 1:], 3)
                self.assert_refused(sign, 1)

    def test_a_line_end_or_a_tab(self):
        for line in ["1 2\n", "\n1 2", "1\n2", "1\t2", "1 2\r", "1 2\t"]:
            self.assert_refused(line, 2)

    def test_sixty_one_figures(self):
        for number in ["1" * 61, "9" * 61, "1" + "0" * 60, "0" * 61, "5" * 600, "5" * 5000]:
            self.assert_refused(number, 1)
            self.assert_refused(number + " 0", 2)
            self.assert_refused("0 " + number, 2)

    def test_too_few_or_too_many_numbers(self):
        for many in range(1, 10):
            for numbers in range(1, 12):
                line = " ".join(["3"] * numbers)
                if numbers == many:
                    self.assert_read(line, many, (3,) * many)
                else:
                    self.assert_refused(line, many)


if __name__ == "__main__":
    unittest.main()
