import copy
import inspect
import itertools
import unittest

from siblingshelf import shelves
from siblingshelf.shelves import dropped, met, put_on

# The greatest number of sixty figures.
GREATEST = 10 ** 60 - 1


def small_marks(many, greatest):
    """Every mark of so many keepers with numbers up to the greatest."""
    return list(itertools.product(range(greatest + 1), repeat=many))


def value_of(keeper, number):
    """The value of a put in the small shelves: of either sign, and not in the order of the rows."""
    return (-1) ** number * (50 - 7 * keeper - number)


def small_shelves(many, greatest):
    """Every shelf with a small mark, and of the rows that the mark has seen any."""
    found = []
    for mark in small_marks(many, greatest):
        seen = [(k, n, value_of(k, n)) for k in range(many) for n in range(1, mark[k] + 1)]
        for size in range(len(seen) + 1):
            found.extend((mark, list(rows)) for rows in itertools.combinations(seen, size))
    return found


def greater_of_both(one, other):
    return tuple(max(pair) for pair in zip(one, other, strict=True))


def in_order(rows):
    return sorted(rows, key=lambda row: (row[0], row[1]))


def unseen(rows, mark):
    return [row for row in rows if row[1] > mark[row[0]]]


class ShelfTest(unittest.TestCase):
    def assert_shelf(self, shelf, mark, rows):
        """The shelf is of the promised kinds, and has this mark and these rows."""
        self.assertIs(type(shelf), tuple)
        self.assertEqual(len(shelf), 2)
        self.assertIs(type(shelf[0]), tuple)
        self.assertEqual(shelf[0], mark)
        self.assertIs(type(shelf[1]), list)
        for row in shelf[1]:
            self.assertIs(type(row), tuple)
        self.assertEqual(shelf[1], rows)

    def assert_stays(self, function, places, given):
        """What stands at these places of the arguments stays, also when the rows told are changed."""
        before = copy.deepcopy(given)
        told = function(*given)
        self.assertEqual(given, before)
        told[1].append("more")
        told[1][0] = "other"
        self.assertEqual(given, before)
        self.assertEqual(function(*given)[1].count("more"), 0)
        told[1].clear()
        self.assertEqual(given, before)
        for place in places:
            self.assertIsNot(function(*given)[1], given[place][1])


class InterfaceTest(unittest.TestCase):
    def test_names_and_arguments(self):
        expected = {
            "put_on": ["shelf", "keeper", "value", "mark"],
            "dropped": ["shelf", "mark"],
            "met": ["one", "other"],
        }
        for name, arguments in expected.items():
            with self.subTest(name=name):
                function = getattr(shelves, name)
                self.assertEqual(list(inspect.signature(function).parameters), arguments)
                self.assertEqual(function.__module__, shelves.__name__)

    def test_arguments_by_name(self):
        shelf = ((1, 0), [(0, 1, 5)])
        self.assertEqual(put_on(shelf=shelf, keeper=1, value=6, mark=(1, 0)), ((1, 1), [(1, 1, 6)]))
        self.assertEqual(dropped(shelf=shelf, mark=(1, 0)), ((1, 0), []))
        self.assertEqual(met(one=shelf, other=((0, 0), [])), shelf)


class PutOnTest(ShelfTest):
    SHELF = ((2, 0, 3), [(0, 1, 10), (0, 2, 20), (2, 2, -30), (2, 3, 40)])

    def test_on_an_empty_shelf(self):
        self.assert_shelf(put_on(((0, 0, 0), []), 0, 7, (0, 0, 0)), (1, 0, 0), [(0, 1, 7)])
        self.assert_shelf(put_on(((0, 0, 0), []), 2, -7, (0, 0, 0)), (0, 0, 1), [(2, 1, -7)])

    def test_with_the_blank_mark_all_stand_beside_it(self):
        self.assert_shelf(
            put_on(self.SHELF, 1, 5, (0, 0, 0)),
            (2, 1, 3),
            [(0, 1, 10), (0, 2, 20), (1, 1, 5), (2, 2, -30), (2, 3, 40)],
        )

    def test_with_the_mark_of_the_shelf_it_stands_alone(self):
        self.assert_shelf(put_on(self.SHELF, 1, 5, (2, 0, 3)), (2, 1, 3), [(1, 1, 5)])
        self.assert_shelf(put_on(self.SHELF, 0, 5, (2, 0, 3)), (3, 0, 3), [(0, 3, 5)])
        self.assert_shelf(put_on(self.SHELF, 2, 5, (2, 0, 3)), (2, 0, 4), [(2, 4, 5)])

    def test_just_the_seen_rows_go(self):
        self.assert_shelf(
            put_on(self.SHELF, 1, 5, (1, 0, 2)), (2, 1, 3), [(0, 2, 20), (1, 1, 5), (2, 3, 40)]
        )
        self.assert_shelf(
            put_on(self.SHELF, 1, 5, (2, 0, 0)), (2, 1, 3), [(1, 1, 5), (2, 2, -30), (2, 3, 40)]
        )
        self.assert_shelf(
            put_on(self.SHELF, 1, 5, (0, 0, 3)), (2, 1, 3), [(0, 1, 10), (0, 2, 20), (1, 1, 5)]
        )

    def test_first_and_last_keeper(self):
        self.assert_shelf(
            put_on(self.SHELF, 0, 5, (1, 0, 2)), (3, 0, 3), [(0, 2, 20), (0, 3, 5), (2, 3, 40)]
        )
        self.assert_shelf(
            put_on(self.SHELF, 2, 5, (1, 0, 2)), (2, 0, 4), [(0, 2, 20), (2, 3, 40), (2, 4, 5)]
        )

    def test_a_mark_with_more_for_other_keepers(self):
        self.assert_shelf(put_on(self.SHELF, 0, 5, (0, 4, 9)), (3, 4, 9), [(0, 1, 10), (0, 2, 20), (0, 3, 5)])

    def test_a_mark_with_more_for_the_keeper_itself(self):
        self.assert_shelf(put_on(self.SHELF, 0, 5, (9, 0, 0)), (3, 0, 3), [(0, 3, 5), (2, 2, -30), (2, 3, 40)])
        self.assert_shelf(put_on(self.SHELF, 0, 5, (3, 0, 0)), (3, 0, 3), [(0, 3, 5), (2, 2, -30), (2, 3, 40)])
        self.assert_shelf(put_on(self.SHELF, 1, 5, (9, 9, 9)), (9, 1, 9), [(1, 1, 5)])
        self.assert_shelf(put_on(((0,), []), 0, 5, (4,)), (1,), [(0, 1, 5)])

    def test_one_keeper(self):
        self.assert_shelf(put_on(((3,), [(0, 2, 8), (0, 3, 9)]), 0, 7, (2,)), (4,), [(0, 3, 9), (0, 4, 7)])
        self.assert_shelf(put_on(((3,), []), 0, 7, (0,)), (4,), [(0, 4, 7)])

    def test_nine_keepers(self):
        mark = (1, 2, 3, 4, 5, 6, 7, 8, 9)
        rows = [(0, 1, 1), (4, 5, 1), (8, 9, 1)]
        for keeper in range(9):
            with self.subTest(keeper=keeper):
                number = mark[keeper] + 1
                expected = mark[:keeper] + (number,) + mark[keeper + 1:]
                new = (keeper, number, 6)
                self.assert_shelf(put_on((mark, rows), keeper, 6, (0,) * 9), expected, in_order([*rows, new]))
                self.assert_shelf(put_on((mark, rows), keeper, 6, mark), expected, [new])

    def test_order_is_by_number_where_it_has_more_figures(self):
        shelf = ((10, 9), [(0, 9, 1), (0, 10, 2), (1, 9, 3)])
        self.assert_shelf(
            put_on(shelf, 1, 0, (0, 0)), (10, 10), [(0, 9, 1), (0, 10, 2), (1, 9, 3), (1, 10, 0)]
        )
        self.assert_shelf(
            put_on(shelf, 0, -9, (0, 0)), (11, 9), [(0, 9, 1), (0, 10, 2), (0, 11, -9), (1, 9, 3)]
        )

    def test_values_do_not_tell_the_order_nor_what_goes(self):
        shelf = ((2, 2), [(0, 2, 100), (1, 1, 100), (1, 2, -100)])
        self.assert_shelf(
            put_on(shelf, 0, 100, (0, 1)), (3, 2), [(0, 2, 100), (0, 3, 100), (1, 2, -100)]
        )

    def test_sixty_figures(self):
        shelf = ((GREATEST - 1, 0), [(0, GREATEST - 1, GREATEST)])
        self.assert_shelf(
            put_on(shelf, 0, -GREATEST, (0, 0)),
            (GREATEST, 0),
            [(0, GREATEST - 1, GREATEST), (0, GREATEST, -GREATEST)],
        )
        self.assert_shelf(put_on(shelf, 1, 0, (GREATEST - 1, 0)), (GREATEST - 1, 1), [(1, 1, 0)])

    def test_small_shelves_and_any_hand(self):
        for mark, rows in small_shelves(2, 2):
            for hand in small_marks(2, 4):
                for keeper in range(2):
                    number = mark[keeper] + 1
                    expected = list(greater_of_both(mark, hand))
                    expected[keeper] = number
                    stand = in_order([*unseen(rows, hand), (keeper, number, 3)])
                    self.assert_shelf(put_on((mark, rows), keeper, 3, hand), tuple(expected), stand)

    def test_what_is_handed_in_stays(self):
        for hand in [(0, 0, 0), (1, 0, 2), (2, 0, 3), (9, 9, 9)]:
            shelf = (self.SHELF[0], list(self.SHELF[1]))
            self.assert_stays(put_on, [0], (shelf, 1, 5, hand))
        self.assert_stays(put_on, [0], (((0,), []), 0, 5, (0,)))


class DroppedTest(ShelfTest):
    SHELF = PutOnTest.SHELF

    def test_with_the_blank_mark_all_stays(self):
        self.assert_shelf(dropped(self.SHELF, (0, 0, 0)), (2, 0, 3), self.SHELF[1])

    def test_with_the_mark_of_the_shelf_nothing_stays(self):
        self.assert_shelf(dropped(self.SHELF, (2, 0, 3)), (2, 0, 3), [])

    def test_just_the_seen_rows_go(self):
        self.assert_shelf(dropped(self.SHELF, (1, 0, 2)), (2, 0, 3), [(0, 2, 20), (2, 3, 40)])
        self.assert_shelf(dropped(self.SHELF, (2, 0, 0)), (2, 0, 3), [(2, 2, -30), (2, 3, 40)])
        self.assert_shelf(dropped(self.SHELF, (0, 0, 2)), (2, 0, 3), [(0, 1, 10), (0, 2, 20), (2, 3, 40)])

    def test_a_mark_that_no_look_tells(self):
        self.assert_shelf(dropped(self.SHELF, (9, 4, 0)), (9, 4, 3), [(2, 2, -30), (2, 3, 40)])
        self.assert_shelf(dropped(self.SHELF, (9, 9, 9)), (9, 9, 9), [])

    def test_on_an_empty_shelf(self):
        self.assert_shelf(dropped(((0, 0), []), (0, 0)), (0, 0), [])
        self.assert_shelf(dropped(((0, 0), []), (0, 3)), (0, 3), [])

    def test_one_keeper(self):
        self.assert_shelf(dropped(((3,), [(0, 2, 8), (0, 3, 9)]), (2,)), (3,), [(0, 3, 9)])

    def test_nine_keepers(self):
        mark = (1, 2, 3, 4, 5, 6, 7, 8, 9)
        rows = [(keeper, mark[keeper], 0) for keeper in range(9)]
        for keeper in range(9):
            with self.subTest(keeper=keeper):
                hand = (0,) * keeper + (9,) + (0,) * (8 - keeper)
                expected = mark[:keeper] + (9,) + mark[keeper + 1:]
                self.assert_shelf(dropped((mark, rows), hand), expected, rows[:keeper] + rows[keeper + 1:])

    def test_sixty_figures(self):
        shelf = ((GREATEST, 0), [(0, GREATEST - 1, 1), (0, GREATEST, 2)])
        self.assert_shelf(dropped(shelf, (GREATEST - 1, 0)), (GREATEST, 0), [(0, GREATEST, 2)])
        self.assert_shelf(dropped(shelf, (0, GREATEST)), (GREATEST, GREATEST), shelf[1])

    def test_small_shelves_and_any_hand(self):
        for mark, rows in small_shelves(2, 2):
            for hand in small_marks(2, 4):
                self.assert_shelf(dropped((mark, rows), hand), greater_of_both(mark, hand), unseen(rows, hand))

    def test_what_is_handed_in_stays(self):
        for hand in [(0, 0, 0), (1, 0, 2), (9, 0, 0)]:
            shelf = (self.SHELF[0], list(self.SHELF[1]))
            self.assert_stays(dropped, [0], (shelf, hand))


class MetTest(ShelfTest):
    def assert_met(self, one, other, mark, rows):
        """Both ways round the two shelves meet in the one with this mark and these rows."""
        self.assert_shelf(met(one, other), mark, rows)
        self.assert_shelf(met(other, one), mark, rows)

    def test_rows_on_both_stay(self):
        one = ((2, 1), [(0, 1, 10), (1, 1, 30)])
        other = ((2, 1), [(0, 1, 10), (0, 2, 20)])
        self.assert_met(one, other, (2, 1), [(0, 1, 10)])

    def test_rows_that_the_other_has_not_seen_stay(self):
        one = ((2, 0), [(0, 1, 10), (0, 2, 20)])
        other = ((0, 2), [(1, 2, 40)])
        self.assert_met(one, other, (2, 2), [(0, 1, 10), (0, 2, 20), (1, 2, 40)])

    def test_rows_on_one_alone_that_the_other_has_seen_go(self):
        one = ((3, 0), [(0, 1, 10), (0, 2, 20), (0, 3, 30)])
        self.assert_met(one, ((2, 0), []), (3, 0), [(0, 3, 30)])
        self.assert_met(one, ((3, 0), []), (3, 0), [])
        self.assert_met(one, ((4, 1), [(0, 2, 20), (1, 1, 5)]), (4, 1), [(0, 2, 20), (1, 1, 5)])

    def test_all_of_it_at_once(self):
        one = ((3, 1, 0), [(0, 1, 10), (0, 2, 20), (0, 3, 30), (1, 1, 40)])
        other = ((2, 1, 2), [(0, 1, 10), (2, 1, 50), (2, 2, 60)])
        self.assert_met(one, other, (3, 1, 2), [(0, 1, 10), (0, 3, 30), (2, 1, 50), (2, 2, 60)])

    def test_a_row_is_the_same_only_with_the_same_value(self):
        one = ((1, 0), [(0, 1, 10)])
        self.assert_met(one, ((1, 0), [(0, 1, 11)]), (1, 0), [])

    def test_equal_values_of_different_puts_stand_beside_each_other(self):
        self.assert_met(((2, 0), [(0, 2, 7)]), ((1, 1), [(1, 1, 7)]), (2, 1), [(0, 2, 7), (1, 1, 7)])

    def test_rows_in_order_where_numbers_have_more_figures(self):
        one = ((10, 0), [(0, 9, -1), (0, 10, -2)])
        other = ((8, 11), [(0, 8, 5), (1, 9, 3), (1, 10, 2), (1, 11, 1)])
        self.assert_met(one, other, (10, 11), [(0, 9, -1), (0, 10, -2), (1, 9, 3), (1, 10, 2), (1, 11, 1)])

    def test_rows_of_both_are_mixed_in_order(self):
        one = ((1, 0, 1, 0), [(0, 1, 1), (2, 1, 1)])
        other = ((0, 1, 0, 1), [(1, 1, 1), (3, 1, 1)])
        rows = [(0, 1, 1), (1, 1, 1), (2, 1, 1), (3, 1, 1)]
        self.assert_met(one, other, (1, 1, 1, 1), rows)

    def test_empty_shelves(self):
        self.assert_met(((0, 0), []), ((0, 0), []), (0, 0), [])
        self.assert_met(((2, 1), [(0, 2, 9)]), ((0, 0), []), (2, 1), [(0, 2, 9)])
        self.assert_met(((2, 1), []), ((1, 3), []), (2, 3), [])

    def test_one_keeper(self):
        self.assert_met(((3,), [(0, 2, 8), (0, 3, 9)]), ((2,), [(0, 2, 8)]), (3,), [(0, 2, 8), (0, 3, 9)])
        self.assert_met(((3,), [(0, 3, 9)]), ((2,), [(0, 1, 7), (0, 2, 8)]), (3,), [(0, 3, 9)])

    def test_nine_keepers(self):
        one = ((1,) * 9, [(keeper, 1, keeper) for keeper in range(9)])
        other = ((2,) * 9, [(keeper, 2, -keeper) for keeper in range(9)])
        self.assert_met(one, other, (2,) * 9, other[1])
        self.assert_met(one, ((0,) * 8 + (1,), []), (1,) * 9, one[1][:8])
        self.assert_met(one, ((1,) + (0,) * 8, []), (1,) * 9, one[1][1:])

    def test_sixty_figures(self):
        one = ((GREATEST, 0), [(0, GREATEST - 1, GREATEST), (0, GREATEST, -GREATEST)])
        other = ((GREATEST - 1, 1), [(1, 1, 0)])
        self.assert_met(one, other, (GREATEST, 1), [(0, GREATEST, -GREATEST), (1, 1, 0)])

    def test_any_two_small_shelves(self):
        found = small_shelves(2, 2)
        for one in found:
            for other in found:
                both = [row for row in one[1] if row in other[1]]
                alone = unseen(one[1], other[0]) + unseen(other[1], one[0])
                self.assert_shelf(met(one, other), greater_of_both(one[0], other[0]), in_order(both + alone))

    def test_either_way_round_and_once_more(self):
        found = small_shelves(2, 2)
        for one in found:
            self.assertEqual(met(one, one), one)
            for other in found:
                both = met(one, other)
                self.assertEqual(met(other, one), both)
                self.assertEqual([met(both, one), met(one, both)], [both] * 2)
                self.assertEqual([met(both, other), met(other, both)], [both] * 2)

    def test_three_keepers_either_way_round_and_once_more(self):
        found = small_shelves(3, 1)
        for one in found:
            self.assertEqual(met(one, one), one)
            for other in found:
                both = met(one, other)
                self.assertEqual(met(other, one), both)
                self.assertEqual([met(both, one), met(both, other)], [both] * 2)

    def test_what_is_handed_in_stays(self):
        one = ((3, 1, 0), [(0, 1, 10), (0, 2, 20), (0, 3, 30), (1, 1, 40)])
        other = ((2, 1, 2), [(0, 1, 10), (2, 1, 50), (2, 2, 60)])
        empty = ((0, 0, 0), [])
        self.assert_stays(met, [0, 1], (one, other))
        self.assert_stays(met, [0, 1], (other, one))
        self.assert_stays(met, [0, 1], (one, one))
        self.assert_stays(met, [0, 1], (one, empty))
        self.assert_stays(met, [0, 1], (empty, one))


if __name__ == "__main__":
    unittest.main()
