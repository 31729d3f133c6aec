import inspect
import itertools
import unittest

from siblingshelf import marks
from siblingshelf.errors import BadCount, BadMark, ShelfError
from siblingshelf.marks import blank, has_seen, joined, within

# The greatest number of sixty figures, and the one below it.
GREATEST = 10 ** 60 - 1
BELOW_GREATEST = GREATEST - 1


def refusal(function, *given):
    """The kind of error with which the call is refused, or None if it is not."""
    try:
        function(*given)
    except ShelfError as error:
        return type(error)
    return None


def small_marks(many):
    """Every mark of so many keepers with numbers from 0 to 2."""
    return list(itertools.product(range(3), repeat=many))


class InterfaceTest(unittest.TestCase):
    def test_names_and_arguments(self):
        expected = {
            "blank": ["many"],
            "joined": ["one", "other"],
            "within": ["one", "other"],
            "has_seen": ["mark", "keeper", "number"],
        }
        for name, arguments in expected.items():
            with self.subTest(name=name):
                function = getattr(marks, name)
                self.assertEqual(list(inspect.signature(function).parameters), arguments)
                self.assertEqual(function.__module__, marks.__name__)

    def test_arguments_by_name(self):
        self.assertEqual(blank(many=2), (0, 0))
        self.assertEqual(joined(one=(1, 2), other=(2, 1)), (2, 2))
        self.assertIs(within(one=(1, 2), other=(2, 2)), True)
        self.assertIs(has_seen(mark=(1, 2), keeper=1, number=2), True)


class BlankTest(unittest.TestCase):
    def test_noughts_alone(self):
        for many in range(1, 10):
            with self.subTest(many=many):
                mark = blank(many)
                self.assertIs(type(mark), tuple)
                self.assertEqual(len(mark), many)
                for number in mark:
                    self.assertIs(type(number), int)
                    self.assertEqual(number, 0)

    def test_other_counts_are_refused(self):
        for many in (0, -1, -2, -9, -GREATEST, 10, 11, 12, 18, 100, GREATEST):
            with self.subTest(many=many):
                self.assertIs(refusal(blank, many), BadCount)

    def test_a_count_too_long_to_print_is_refused_likewise(self):
        self.assertIs(refusal(blank, 10 ** 5000), BadCount)
        self.assertIs(refusal(blank, -10 ** 5000), BadCount)

    def test_counts_from_one_to_nine_are_not_refused(self):
        self.assertEqual([refusal(blank, many) for many in range(1, 10)], [None] * 9)

    def test_has_seen_no_put(self):
        for many in range(1, 10):
            for keeper in range(many):
                self.assertIs(has_seen(blank(many), keeper, 1), False)


class HasSeenTest(unittest.TestCase):
    def test_at_below_and_above_the_number(self):
        mark = (3, 1, 4, 1, 5, 9, 2, 6, 7)
        for keeper, number in enumerate(mark):
            with self.subTest(keeper=keeper):
                self.assertIs(has_seen(mark, keeper, number - 1), True)
                self.assertIs(has_seen(mark, keeper, number), True)
                self.assertIs(has_seen(mark, keeper, number + 1), False)

    def test_first_and_last_keeper(self):
        mark = (5, 0, 2)
        self.assertIs(has_seen(mark, 0, 4), True)
        self.assertIs(has_seen(mark, 0, 5), True)
        self.assertIs(has_seen(mark, 0, 6), False)
        self.assertIs(has_seen(mark, 2, 1), True)
        self.assertIs(has_seen(mark, 2, 2), True)
        self.assertIs(has_seen(mark, 2, 3), False)

    def test_one_keeper(self):
        self.assertIs(has_seen((1,), 0, 1), True)
        self.assertIs(has_seen((1,), 0, 2), False)

    def test_far_from_the_number(self):
        self.assertIs(has_seen((7, 0), 0, 1), True)
        self.assertIs(has_seen((7, 0), 1, 7), False)

    def test_sixty_figures(self):
        mark = (0, BELOW_GREATEST)
        self.assertIs(has_seen(mark, 1, BELOW_GREATEST - 1), True)
        self.assertIs(has_seen(mark, 1, BELOW_GREATEST), True)
        self.assertIs(has_seen(mark, 1, GREATEST), False)

    def test_mark_stays(self):
        mark = (2, 3)
        has_seen(mark, 1, 2)
        self.assertEqual(mark, (2, 3))


class JoinedTest(unittest.TestCase):
    def assert_joined(self, one, other, expected):
        mark = joined(one, other)
        self.assertIs(type(mark), tuple)
        self.assertEqual(mark, expected)

    def test_greater_now_in_the_first_and_now_in_the_second(self):
        self.assert_joined((3, 0, 5), (1, 4, 5), (3, 4, 5))
        self.assert_joined((1, 4, 5), (3, 0, 5), (3, 4, 5))
        self.assert_joined((9, 1), (10, 0), (10, 1))

    def test_equal_marks(self):
        self.assert_joined((2, 0, 7), (2, 0, 7), (2, 0, 7))
        self.assert_joined(blank(3), blank(3), (0, 0, 0))

    def test_one_keeper(self):
        self.assert_joined((1,), (2,), (2,))
        self.assert_joined((2,), (1,), (2,))
        self.assert_joined((2,), (2,), (2,))

    def test_nine_keepers(self):
        self.assert_joined(
            (1, 2, 3, 4, 5, 6, 7, 8, 9),
            (9, 8, 7, 6, 5, 4, 3, 2, 1),
            (9, 8, 7, 6, 5, 6, 7, 8, 9),
        )

    def test_sixty_figures(self):
        self.assert_joined((GREATEST, BELOW_GREATEST), (BELOW_GREATEST, GREATEST), (GREATEST, GREATEST))
        self.assert_joined((GREATEST, 0), (0, 1), (GREATEST, 1))

    def test_with_the_blank_mark(self):
        self.assert_joined((4, 0, 1), blank(3), (4, 0, 1))
        self.assert_joined(blank(3), (4, 0, 1), (4, 0, 1))

    def test_all_small_marks(self):
        for one in small_marks(3):
            for other in small_marks(3):
                mark = joined(one, other)
                for keeper in range(3):
                    self.assertIn(mark[keeper], (one[keeper], other[keeper]))
                    self.assertGreaterEqual(mark[keeper], one[keeper])
                    self.assertGreaterEqual(mark[keeper], other[keeper])

    def test_marks_stay(self):
        one = (3, 0)
        other = (1, 4)
        joined(one, other)
        self.assertEqual((one, other), ((3, 0), (1, 4)))


class WithinTest(unittest.TestCase):
    def test_no_number_is_greater(self):
        self.assertIs(within((1, 2, 3), (1, 3, 3)), True)
        self.assertIs(within((0, 0), (5, 6)), True)
        self.assertIs(within((9, 1), (10, 1)), True)

    def test_one_number_is_greater(self):
        self.assertIs(within((2, 2, 3), (1, 3, 3)), False)
        self.assertIs(within((1, 2, 4), (1, 2, 3)), False)
        self.assertIs(within((1, 3, 3), (1, 2, 3)), False)

    def test_every_number_is_greater(self):
        self.assertIs(within((5, 6), (0, 0)), False)

    def test_neither_lies_within_the_other(self):
        self.assertIs(within((1, 2), (2, 1)), False)
        self.assertIs(within((2, 1), (1, 2)), False)

    def test_a_mark_lies_within_itself(self):
        for mark in [*small_marks(2), (7,), (1, 2, 3, 4, 5, 6, 7, 8, 9), (GREATEST, 0)]:
            with self.subTest(mark=mark):
                self.assertIs(within(mark, mark), True)

    def test_a_mark_lies_within_what_it_is_joined_into(self):
        for one in small_marks(3):
            for other in small_marks(3):
                mark = joined(one, other)
                self.assertIs(within(one, mark), True)
                self.assertIs(within(other, mark), True)
                self.assertIs(within(mark, one), within(other, one))

    def test_one_keeper(self):
        self.assertIs(within((1,), (2,)), True)
        self.assertIs(within((2,), (2,)), True)
        self.assertIs(within((3,), (2,)), False)

    def test_nine_keepers(self):
        self.assertIs(within(blank(9), (1, 2, 3, 4, 5, 6, 7, 8, 9)), True)
        self.assertIs(within((0,) * 8 + (1,), blank(9)), False)

    def test_sixty_figures(self):
        self.assertIs(within((BELOW_GREATEST, 0), (GREATEST, 0)), True)
        self.assertIs(within((GREATEST, 0), (BELOW_GREATEST, 0)), False)

    def test_marks_stay(self):
        one = (3, 0)
        other = (1, 4)
        within(one, other)
        self.assertEqual((one, other), ((3, 0), (1, 4)))


class UnlikeMarksTest(unittest.TestCase):
    def test_refused_just_where_the_lengths_differ(self):
        for function in (joined, within):
            for many in range(1, 10):
                for others in range(1, 10):
                    with self.subTest(function=function.__name__, many=many, others=others):
                        expected = None if many == others else BadMark
                        self.assertIs(refusal(function, blank(many), blank(others)), expected)

    def test_refused_whatever_the_numbers(self):
        for function in (joined, within):
            with self.subTest(function=function.__name__):
                self.assertIs(refusal(function, (1, 2), (1, 2, 3)), BadMark)
                self.assertIs(refusal(function, (1, 2, 3), (1, 2)), BadMark)
                self.assertIs(refusal(function, (9,), (0, 0)), BadMark)
                self.assertIs(refusal(function, (GREATEST, 0), (0,)), BadMark)

    def test_refused_beyond_nine_keepers_and_without_keepers(self):
        for function in (joined, within):
            with self.subTest(function=function.__name__):
                self.assertIs(refusal(function, (0,) * 9, (0,) * 10), BadMark)
                self.assertIs(refusal(function, (0,) * 10, (0,) * 9), BadMark)
                self.assertIs(refusal(function, (), (0,)), BadMark)
                self.assertIs(refusal(function, (0,), ()), BadMark)


if __name__ == "__main__":
    unittest.main()
