import copy
import inspect
import itertools
import unittest

from siblingshelf import stores
from siblingshelf.errors import BadCount, BadMark, BadNote, NoKeeper, ShelfError
from siblingshelf.marks import blank, joined
from siblingshelf.stores import Store

# The greatest number of sixty figures.
GREATEST = 10 ** 60 - 1

KINDS = (BadCount, NoKeeper, BadMark, BadNote)

METHODS = {
    "look": ["self", "keeper", "key"],
    "put": ["self", "keeper", "key", "value", "mark"],
    "drop": ["self", "keeper", "key", "mark"],
    "letter": ["self", "keeper", "key"],
    "take": ["self", "keeper", "letter"],
    "keys": ["self", "keeper"],
}


def told_of(store, many, keys):
    """All that the looks at these keys, and `keys`, tell at all keepers."""
    looks = [store.look(keeper, key) for keeper in range(many) for key in keys]
    return looks, [store.keys(keeper) for keeper in range(many)]


def put_beside(store, keeper, key, *values):
    """Put the values with the mark that has seen nothing."""
    mark = (0,) * len(store.look(keeper, key)[1])
    for value in values:
        store.put(keeper, key, value, mark)


def put_alone(store, keeper, key, value):
    """Put the value with the mark of a look at that shelf at once."""
    store.put(keeper, key, value, store.look(keeper, key)[1])


def drop_all(store, keeper, key):
    """Drop with the mark of a look at that shelf at once."""
    store.drop(keeper, key, store.look(keeper, key)[1])


def send(store, keeper, key, other):
    """Let the other keeper take a letter that the keeper writes at once."""
    store.take(other, store.letter(keeper, key))


class StoreTest(unittest.TestCase):
    def assert_look(self, store, keeper, key, values, mark):
        told = store.look(keeper, key)
        self.assertIs(type(told), tuple)
        self.assertEqual(len(told), 2)
        self.assertIs(type(told[0]), list)
        self.assertIs(type(told[1]), tuple)
        self.assertEqual(told, (values, mark))

    def assert_refused(self, kind, function, *given):
        with self.assertRaises(ShelfError) as caught:
            function(*given)
        self.assertIsInstance(caught.exception, ValueError)
        self.assertEqual([other for other in KINDS if isinstance(caught.exception, other)], [kind])


class InterfaceTest(StoreTest):
    def test_methods_stand_in_the_body_of_the_class(self):
        self.assertEqual(Store.__module__, stores.__name__)
        for name, arguments in METHODS.items():
            with self.subTest(name=name):
                self.assertIn(name, vars(Store))
                self.assertEqual(list(inspect.signature(vars(Store)[name]).parameters), arguments)

    def test_arguments_by_name(self):
        store = Store(many=2)
        store.put(keeper=0, key="a", value=5, mark=(0, 0))
        store.put(keeper=0, key="a", value=6, mark=(0, 0))
        store.drop(keeper=0, key="a", mark=(1, 0))
        store.take(keeper=1, letter=store.letter(keeper=0, key="a"))
        self.assertEqual(store.look(keeper=1, key="a"), ([6], (2, 0)))
        self.assertEqual(store.keys(keeper=1), ["a"])

    def test_changes_tell_nothing(self):
        store = Store(2)
        self.assertIsNone(store.put(0, "a", 5, (0, 0)))
        self.assertIsNone(store.put(0, "a", 5, (1, 0)))
        self.assertIsNone(store.drop(0, "a", (0, 0)))
        self.assertIsNone(store.drop(0, "a", (1, 0)))
        self.assertIsNone(store.take(1, store.letter(0, "a")))
        self.assertIsNone(store.take(1, store.letter(0, "b")))

    def test_a_letter_is_a_tuple(self):
        store = Store(2)
        self.assertIs(type(store.letter(0, "a")), tuple)
        put_beside(store, 0, "a", 5, 6)
        self.assertIs(type(store.letter(0, "a")), tuple)
        self.assertIs(type(store.letter(1, "a")), tuple)


class CountTest(StoreTest):
    def test_one_to_nine_keepers(self):
        for many in range(1, 10):
            with self.subTest(many=many):
                store = Store(many)
                for keeper in range(many):
                    self.assert_look(store, keeper, "a", [], (0,) * many)
                self.assert_refused(NoKeeper, store.look, many, "a")

    def test_other_counts_are_refused(self):
        for many in (0, -1, -2, -9, -GREATEST, 10, 11, 18, 100, GREATEST):
            with self.subTest(many=many):
                self.assert_refused(BadCount, Store, many)


class AtFirstTest(StoreTest):
    def test_no_keeper_has_anything(self):
        for many in (1, 2, 9):
            store = Store(many)
            for keeper in range(many):
                for key in ("", "a", " ", "~", "a key of some words"):
                    self.assert_look(store, keeper, key, [], (0,) * many)
                self.assertEqual(store.keys(keeper), [])

    def test_stores_are_apart(self):
        store = Store(2)
        other = Store(2)
        put_beside(store, 0, "a", 5)
        self.assert_look(other, 0, "a", [], (0, 0))
        self.assertEqual(other.keys(0), [])
        self.assert_look(Store(2), 0, "a", [], (0, 0))


class PutTest(StoreTest):
    def test_behind_a_put_the_value_stands(self):
        for many in (1, 2, 9):
            for keeper in range(many):
                store = Store(many)
                put_beside(store, keeper, "a", 5)
                mark = (0,) * keeper + (1,) + (0,) * (many - keeper - 1)
                self.assert_look(store, keeper, "a", [5], mark)

    def test_with_the_mark_of_a_look_it_stands_alone(self):
        store = Store(2)
        put_beside(store, 0, "a", 5, 6, 7)
        put_alone(store, 0, "a", 8)
        self.assert_look(store, 0, "a", [8], (4, 0))
        put_alone(store, 0, "a", 8)
        self.assert_look(store, 0, "a", [8], (5, 0))

    def test_with_the_blank_mark_all_stand_beside_it(self):
        store = Store(2)
        put_beside(store, 0, "a", 5)
        self.assert_look(store, 0, "a", [5], (1, 0))
        put_beside(store, 0, "a", 4)
        self.assert_look(store, 0, "a", [5, 4], (2, 0))
        put_beside(store, 0, "a", 5)
        self.assert_look(store, 0, "a", [5, 4, 5], (3, 0))

    def test_with_the_mark_of_an_earlier_look_later_values_stay(self):
        store = Store(2)
        put_beside(store, 0, "a", 5, 6)
        mark = store.look(0, "a")[1]
        put_beside(store, 0, "a", 7)
        store.put(0, "a", 8, mark)
        self.assert_look(store, 0, "a", [7, 8], (4, 0))

    def test_with_the_mark_of_a_look_at_another_keeper(self):
        store = Store(2)
        put_beside(store, 0, "a", 5)
        mark = store.look(0, "a")[1]
        put_beside(store, 1, "a", 6)
        store.put(1, "a", 7, mark)
        self.assert_look(store, 1, "a", [6, 7], (1, 2))
        self.assert_look(store, 0, "a", [5], (1, 0))
        send(store, 1, "a", 0)
        self.assert_look(store, 0, "a", [6, 7], (1, 2))

    def test_with_the_marks_of_two_looks_joined(self):
        store = Store(3)
        put_beside(store, 0, "a", 5)
        put_beside(store, 1, "a", 6)
        put_beside(store, 2, "a", 7)
        store.put(2, "a", 8, joined(store.look(0, "a")[1], store.look(1, "a")[1]))
        self.assert_look(store, 2, "a", [7, 8], (1, 1, 2))
        send(store, 0, "a", 2)
        send(store, 1, "a", 2)
        self.assert_look(store, 2, "a", [7, 8], (1, 1, 2))
        send(store, 2, "a", 0)
        self.assert_look(store, 0, "a", [7, 8], (1, 1, 2))

    def test_values_in_order_by_keeper_and_then_by_number(self):
        store = Store(3)
        put_beside(store, 2, "a", 1, 2)
        put_beside(store, 0, "a", 9, 3)
        put_beside(store, 1, "a", 4, -8)
        for keeper in (2, 1, 0):
            send(store, keeper, "a", 1)
        self.assert_look(store, 1, "a", [9, 3, 4, -8, 1, 2], (2, 2, 2))
        put_beside(store, 1, "a", 6)
        self.assert_look(store, 1, "a", [9, 3, 4, -8, 6, 1, 2], (2, 3, 2))

    def test_more_than_nine_values_in_order(self):
        store = Store(1)
        put_beside(store, 0, "a", *range(25, 0, -1))
        self.assert_look(store, 0, "a", list(range(25, 0, -1)), (25,))

    def test_values_of_either_sign_and_of_sixty_figures(self):
        store = Store(1)
        values = [0, -1, GREATEST, -GREATEST, 1, 0]
        put_beside(store, 0, "a", *values)
        self.assert_look(store, 0, "a", values, (6,))
        send(store, 0, "a", 0)
        self.assert_look(store, 0, "a", values, (6,))

    def test_other_keys_and_other_keepers_stay(self):
        store = Store(2)
        put_beside(store, 0, "b", 1)
        put_beside(store, 1, "a", 2)
        put_beside(store, 0, "a", 3)
        put_alone(store, 0, "a", 4)
        self.assert_look(store, 0, "a", [4], (2, 0))
        self.assert_look(store, 0, "b", [1], (1, 0))
        self.assert_look(store, 1, "a", [2], (0, 1))
        self.assert_look(store, 1, "b", [], (0, 0))

    def test_puts_are_numbered_for_each_key(self):
        store = Store(1)
        put_beside(store, 0, "a", 1, 2)
        put_beside(store, 0, "b", 3)
        put_beside(store, 0, "a", 4)
        self.assert_look(store, 0, "a", [1, 2, 4], (3,))
        self.assert_look(store, 0, "b", [3], (1,))

    def test_numbers_go_on_behind_a_drop(self):
        store = Store(2)
        put_beside(store, 0, "a", 1, 2)
        drop_all(store, 0, "a")
        put_beside(store, 0, "a", 3)
        self.assert_look(store, 0, "a", [3], (3, 0))


class DropTest(StoreTest):
    def test_with_the_mark_of_a_look_all_goes(self):
        store = Store(2)
        put_beside(store, 1, "a", 5, 6)
        drop_all(store, 1, "a")
        self.assert_look(store, 1, "a", [], (0, 2))

    def test_with_the_blank_mark_all_stays(self):
        store = Store(2)
        put_beside(store, 1, "a", 5, 6)
        store.drop(1, "a", (0, 0))
        self.assert_look(store, 1, "a", [5, 6], (0, 2))

    def test_with_the_mark_of_an_earlier_look_later_values_stay(self):
        store = Store(2)
        put_beside(store, 0, "a", 5)
        mark = store.look(0, "a")[1]
        put_beside(store, 0, "a", 6)
        store.drop(0, "a", mark)
        self.assert_look(store, 0, "a", [6], (2, 0))

    def test_what_was_seen_elsewhere_is_known_then(self):
        store = Store(2)
        put_beside(store, 0, "a", 5)
        letter = store.letter(0, "a")
        store.drop(1, "a", store.look(0, "a")[1])
        self.assert_look(store, 1, "a", [], (1, 0))
        store.take(1, letter)
        self.assert_look(store, 1, "a", [], (1, 0))
        send(store, 1, "a", 0)
        self.assert_look(store, 0, "a", [], (1, 0))

    def test_other_keys_and_other_keepers_stay(self):
        store = Store(2)
        put_beside(store, 0, "a", 5)
        put_beside(store, 0, "b", 6)
        send(store, 0, "a", 1)
        drop_all(store, 0, "a")
        self.assert_look(store, 0, "a", [], (1, 0))
        self.assert_look(store, 0, "b", [6], (1, 0))
        self.assert_look(store, 1, "a", [5], (1, 0))

    def test_on_an_empty_shelf(self):
        store = Store(2)
        store.drop(0, "a", (0, 0))
        self.assert_look(store, 0, "a", [], (0, 0))
        self.assertEqual(store.keys(0), [])


class LetterTest(StoreTest):
    def test_is_the_shelf_as_it_was_when_it_was_written(self):
        store = Store(2)
        put_beside(store, 0, "a", 5, 6)
        letter = store.letter(0, "a")
        before = copy.deepcopy(letter)
        put_beside(store, 0, "a", 7)
        put_alone(store, 0, "a", 8)
        drop_all(store, 0, "a")
        self.assertEqual(letter, before)
        store.take(1, letter)
        self.assert_look(store, 1, "a", [5, 6], (2, 0))
        self.assertEqual(letter, before)

    def test_a_letter_of_an_empty_shelf_stays_empty(self):
        store = Store(2)
        letter = store.letter(0, "a")
        put_beside(store, 0, "a", 5)
        put_beside(store, 1, "a", 6)
        store.take(1, letter)
        self.assert_look(store, 1, "a", [6], (0, 1))
        store.take(0, letter)
        self.assert_look(store, 0, "a", [5], (1, 0))

    def test_stays_when_it_has_been_taken(self):
        store = Store(3)
        put_beside(store, 0, "a", 5)
        letter = store.letter(0, "a")
        before = copy.deepcopy(letter)
        store.take(1, letter)
        put_beside(store, 1, "a", 6)
        put_alone(store, 1, "a", 7)
        self.assertEqual(letter, before)
        store.take(2, letter)
        self.assert_look(store, 2, "a", [5], (1, 0, 0))

    def test_taken_late(self):
        store = Store(2)
        put_beside(store, 0, "a", 5)
        early = store.letter(0, "a")
        put_alone(store, 0, "a", 6)
        send(store, 0, "a", 1)
        put_beside(store, 1, "a", 7)
        store.take(1, early)
        self.assert_look(store, 1, "a", [6, 7], (2, 1))

    def test_taken_twice(self):
        store = Store(2)
        put_beside(store, 0, "a", 5)
        letter = store.letter(0, "a")
        store.take(1, letter)
        store.take(1, letter)
        self.assert_look(store, 1, "a", [5], (1, 0))
        drop_all(store, 1, "a")
        store.take(1, letter)
        self.assert_look(store, 1, "a", [], (1, 0))
        put_beside(store, 1, "a", 6)
        store.take(1, letter)
        self.assert_look(store, 1, "a", [6], (1, 1))

    def test_taken_in_any_order(self):
        for order in itertools.permutations(range(4)):
            store = Store(2)
            letters = [store.letter(0, "a")]
            put_beside(store, 0, "a", 5, 6)
            letters.append(store.letter(0, "a"))
            put_alone(store, 0, "a", 7)
            letters.append(store.letter(0, "a"))
            put_beside(store, 0, "a", 8)
            letters.append(store.letter(0, "a"))
            for place in order:
                store.take(1, letters[place])
            with self.subTest(order=order):
                self.assert_look(store, 1, "a", [7, 8], (4, 0))

    def test_taken_at_its_own_keeper(self):
        store = Store(2)
        put_beside(store, 0, "a", 5, 6)
        letter = store.letter(0, "a")
        store.take(0, letter)
        self.assert_look(store, 0, "a", [5, 6], (2, 0))
        put_beside(store, 0, "a", 7)
        store.take(0, letter)
        self.assert_look(store, 0, "a", [5, 6, 7], (3, 0))
        put_alone(store, 0, "a", 8)
        store.take(0, letter)
        self.assert_look(store, 0, "a", [8], (4, 0))
        drop_all(store, 0, "a")
        store.take(0, letter)
        self.assert_look(store, 0, "a", [], (4, 0))

    def test_taken_by_a_keeper_that_knows_more(self):
        store = Store(2)
        put_beside(store, 0, "a", 5)
        letter = store.letter(0, "a")
        put_beside(store, 0, "a", 6)
        send(store, 0, "a", 1)
        put_alone(store, 1, "a", 7)
        store.take(1, letter)
        self.assert_look(store, 1, "a", [7], (2, 1))

    def test_taken_by_a_keeper_that_knows_less(self):
        store = Store(2)
        put_beside(store, 0, "a", 5)
        send(store, 0, "a", 1)
        put_alone(store, 0, "a", 6)
        put_beside(store, 1, "a", 7)
        send(store, 0, "a", 1)
        self.assert_look(store, 1, "a", [6, 7], (2, 1))

    def test_drops_come_by_letters(self):
        store = Store(3)
        put_beside(store, 0, "a", 5, 6)
        send(store, 0, "a", 1)
        drop_all(store, 0, "a")
        put_beside(store, 1, "a", 7)
        send(store, 0, "a", 1)
        self.assert_look(store, 1, "a", [7], (2, 1, 0))
        send(store, 0, "a", 2)
        self.assert_look(store, 2, "a", [], (2, 0, 0))

    def test_passed_on_by_another_keeper(self):
        store = Store(3)
        put_beside(store, 0, "a", 5)
        send(store, 0, "a", 1)
        put_beside(store, 1, "a", 6)
        send(store, 1, "a", 2)
        self.assert_look(store, 2, "a", [5, 6], (1, 1, 0))

    def test_other_shelves_stay(self):
        store = Store(3)
        for keeper in range(3):
            put_beside(store, keeper, "a", 10 + keeper)
            put_beside(store, keeper, "b", 20 + keeper)
        send(store, 0, "a", 1)
        self.assert_look(store, 1, "a", [10, 11], (1, 1, 0))
        self.assert_look(store, 0, "a", [10], (1, 0, 0))
        self.assert_look(store, 2, "a", [12], (0, 0, 1))
        for keeper in range(3):
            mark = blank(3)[:keeper] + (1,) + blank(3)[keeper + 1:]
            self.assert_look(store, keeper, "b", [20 + keeper], mark)

    def test_keys_of_letters_are_apart(self):
        store = Store(2)
        keys = ["", " ", "a", "A", "a ", " a", "aa"]
        for value, key in enumerate(keys):
            put_beside(store, 0, key, value)
        send(store, 0, "a", 1)
        self.assertEqual(store.keys(1), ["a"])
        for value, key in enumerate(keys):
            send(store, 0, key, 1)
            self.assert_look(store, 1, key, [value], (1, 0))
        self.assertEqual(store.keys(1), sorted(keys))


class AllKnowAllTest(StoreTest):
    def test_in_whatever_order(self):
        for order in itertools.permutations(range(3)):
            store = Store(3)
            put_beside(store, 0, "a", 5)
            send(store, 0, "a", 1)
            put_alone(store, 1, "a", 6)
            put_beside(store, 2, "a", 7, 8)
            store.drop(0, "a", store.look(2, "a")[1])
            put_beside(store, 2, "a", 9)
            letters = [store.letter(keeper, "a") for keeper in range(3)]
            for keeper in range(3):
                for place in order:
                    store.take(keeper, letters[place])
            with self.subTest(order=order):
                for keeper in range(3):
                    self.assert_look(store, keeper, "a", [6, 9], (1, 1, 3))
                before = told_of(store, 3, ["a"])
                for keeper in range(3):
                    for place in order:
                        store.take(keeper, letters[place])
                        send(store, place, "a", keeper)
                self.assertEqual(told_of(store, 3, ["a"]), before)


class KeysTest(StoreTest):
    def test_just_those_where_something_stands(self):
        store = Store(2)
        put_beside(store, 0, "b", 1)
        put_beside(store, 0, "a", 2)
        put_beside(store, 1, "c", 3)
        self.assertEqual(store.keys(0), ["a", "b"])
        self.assertEqual(store.keys(1), ["c"])
        send(store, 0, "b", 1)
        self.assertEqual(store.keys(1), ["b", "c"])
        self.assertEqual(store.keys(0), ["a", "b"])

    def test_a_value_of_nought_stands(self):
        store = Store(1)
        put_beside(store, 0, "a", 0)
        self.assertEqual(store.keys(0), ["a"])

    def test_dropped_values(self):
        store = Store(2)
        put_beside(store, 0, "a", 1, 2)
        put_beside(store, 0, "b", 3)
        store.drop(0, "a", (1, 0))
        self.assertEqual(store.keys(0), ["a", "b"])
        store.drop(0, "a", (2, 0))
        self.assertEqual(store.keys(0), ["b"])
        drop_all(store, 0, "b")
        self.assertEqual(store.keys(0), [])
        put_beside(store, 0, "a", 4)
        self.assertEqual(store.keys(0), ["a"])

    def test_values_dropped_by_a_letter(self):
        store = Store(2)
        put_beside(store, 0, "a", 1)
        send(store, 0, "a", 1)
        drop_all(store, 0, "a")
        send(store, 0, "a", 1)
        self.assertEqual(store.keys(1), [])

    def test_looks_and_letters_put_nothing(self):
        store = Store(2)
        store.look(0, "a")
        letter = store.letter(0, "b")
        self.assertEqual(store.keys(0), [])
        store.take(0, letter)
        store.take(1, letter)
        store.drop(0, "c", (0, 0))
        self.assertEqual([store.keys(0), store.keys(1)], [[], []])

    def test_keys_are_apart(self):
        store = Store(1)
        keys = ["", " ", "  ", "a", "a ", " a", "A", "b", "ab", "a b", "a  b", "0", "~", "a.b", "None"]
        for value, key in enumerate(keys):
            put_beside(store, 0, key, value)
        for value, key in enumerate(keys):
            self.assert_look(store, 0, key, [value], (1,))
        self.assertEqual(store.keys(0), sorted(keys))
        for key in keys:
            drop_all(store, 0, key)
            self.assertNotIn(key, store.keys(0))
        self.assertEqual(store.keys(0), [])

    def test_many_keys_sorted(self):
        store = Store(2)
        keys = [str(number * 7919 % 1009) for number in range(1009)]
        for key in keys:
            put_beside(store, 1, key, int(key))
        self.assertEqual(store.keys(1), sorted(keys))
        self.assertNotEqual(store.keys(1), keys)
        self.assertEqual(store.keys(0), [])
        for key in keys:
            self.assert_look(store, 1, key, [int(key)], (0, 1))


class ListsToldTest(StoreTest):
    def test_changing_what_a_look_tells(self):
        store = Store(2)
        put_beside(store, 0, "a", 5, 6)
        values = store.look(0, "a")[0]
        values.append(7)
        values[0] = 8
        self.assert_look(store, 0, "a", [5, 6], (2, 0))
        values.clear()
        send(store, 0, "a", 1)
        self.assert_look(store, 1, "a", [5, 6], (2, 0))
        self.assertIsNot(store.look(0, "a")[0], store.look(0, "a")[0])

    def test_changing_what_a_look_at_nothing_tells(self):
        store = Store(2)
        store.look(0, "a")[0].append(5)
        self.assert_look(store, 0, "a", [], (0, 0))
        self.assert_look(store, 1, "b", [], (0, 0))
        self.assert_look(Store(2), 0, "a", [], (0, 0))
        self.assertEqual(store.keys(0), [])

    def test_changing_what_keys_tells(self):
        store = Store(2)
        put_beside(store, 0, "b", 5)
        put_beside(store, 0, "a", 6)
        keys = store.keys(0)
        self.assertIs(type(keys), list)
        keys.append("c")
        keys.remove("a")
        self.assertEqual(store.keys(0), ["a", "b"])
        store.keys(1).append("c")
        self.assertEqual(store.keys(1), [])

    def test_no_list_within_a_letter_is_one_of_the_store(self):
        store = Store(2)
        put_beside(store, 0, "a", 5, 6)
        for part in lists_within(store.letter(0, "a")):
            part.clear()
        self.assert_look(store, 0, "a", [5, 6], (2, 0))
        letter = store.letter(0, "a")
        store.take(1, letter)
        for part in lists_within(letter):
            part.clear()
        self.assert_look(store, 0, "a", [5, 6], (2, 0))
        self.assert_look(store, 1, "a", [5, 6], (2, 0))


def lists_within(worth):
    """Every list in the nest of tuples and lists."""
    if not isinstance(worth, (tuple, list)):
        return []
    found = [part for inner in worth for part in lists_within(inner)]
    return [*found, worth] if isinstance(worth, list) else found


class RefusalTest(StoreTest):
    KEYS = ["", "a", "b"]
    BAD_MARKS = [
        [0, 0, 0],
        [],
        "000",
        "0 0 0",
        "",
        b"000",
        None,
        0,
        1,
        {},
        {0: 0, 1: 0, 2: 0},
        (),
        (0,),
        (0, 0),
        (1, 0),
        (0, 0, 0, 0),
        (1, 0, 0, 0),
        (0,) * 9,
        (True, 0, 0),
        (0, True, 0),
        (0, 0, True),
        (False, 0, 0),
        (0, False, 0),
        (0, 0, False),
        (False, False, False),
        ("0", 0, 0),
        (0, "", 0),
        (0, 0, "1"),
        (None, 0, 0),
        (0, 0, None),
        ("0", "0", "0"),
        (0, (0,), 0),
        (0, 0, [0]),
        ((0, 0, 0),),
        (-1, 0, 0),
        (0, -1, 0),
        (0, 0, -1),
        (1, 1, -1),
        (-1, -1, -1),
        (0, 0, -GREATEST),
    ]

    def setUp(self):
        self.store = Store(3)
        put_beside(self.store, 0, "a", 5, 6)
        put_beside(self.store, 2, "a", 7)
        put_beside(self.store, 1, "b", 8)
        drop_all(self.store, 1, "b")
        self.letter = self.store.letter(2, "a")
        self.before = told_of(self.store, 3, self.KEYS)

    def assert_nothing_changed(self):
        self.assertEqual(told_of(self.store, 3, self.KEYS), self.before)
        for keeper, key, told in [(0, "a", [5, 6, 9]), (1, "b", [9]), (1, "a", [9])]:
            other = copy.deepcopy(self.store)
            put_beside(other, keeper, key, 9)
            mark = list(self.store.look(keeper, key)[1])
            mark[keeper] += 1
            self.assert_look(other, keeper, key, told, tuple(mark))

    def test_a_keeper_that_is_not_there(self):
        store = self.store
        for keeper in (-1, -2, -3, -4, 3, 4, 9, 100, GREATEST, -GREATEST):
            with self.subTest(keeper=keeper):
                for key in ("a", "b", "never put"):
                    self.assert_refused(NoKeeper, store.look, keeper, key)
                    self.assert_refused(NoKeeper, store.put, keeper, key, 9, (0, 0, 0))
                    self.assert_refused(NoKeeper, store.put, keeper, key, 9, (2, 0, 1))
                    self.assert_refused(NoKeeper, store.drop, keeper, key, (0, 0, 0))
                    self.assert_refused(NoKeeper, store.drop, keeper, key, (2, 0, 1))
                    self.assert_refused(NoKeeper, store.letter, keeper, key)
                self.assert_refused(NoKeeper, store.take, keeper, self.letter)
                self.assert_refused(NoKeeper, store.take, keeper, store.letter(1, "b"))
                self.assert_refused(NoKeeper, store.keys, keeper)
        self.assert_nothing_changed()

    def test_a_keeper_that_is_not_there_comes_ahead_of_a_bad_mark(self):
        for keeper in (-1, -3, 3, 100):
            for mark in self.BAD_MARKS:
                with self.subTest(keeper=keeper, mark=mark):
                    self.assert_refused(NoKeeper, self.store.put, keeper, "a", 9, mark)
                    self.assert_refused(NoKeeper, self.store.drop, keeper, "a", mark)
        self.assert_nothing_changed()

    def test_the_keepers_of_each_count(self):
        for many in range(1, 10):
            store = Store(many)
            for keeper in range(-12, 21):
                if keeper < 0 or keeper >= many:
                    self.assert_refused(NoKeeper, store.keys, keeper)
                    self.assert_refused(NoKeeper, store.put, keeper, "a", 1, blank(many))
                else:
                    self.assertEqual(store.keys(keeper), [])
                    store.put(keeper, "a", 1, blank(many))

    def test_a_bad_mark(self):
        for keeper in range(3):
            for mark in self.BAD_MARKS:
                with self.subTest(keeper=keeper, mark=mark):
                    self.assert_refused(BadMark, self.store.put, keeper, "a", 9, mark)
                    self.assert_refused(BadMark, self.store.drop, keeper, "a", mark)
                    self.assert_refused(BadMark, self.store.put, keeper, "never put", 9, mark)
                    self.assert_refused(BadMark, self.store.drop, keeper, "never put", mark)
        self.assert_nothing_changed()

    def test_a_mark_of_another_count(self):
        for many in range(1, 10):
            store = Store(many)
            for others in range(12):
                mark = (0,) * others
                if others != many:
                    self.assert_refused(BadMark, store.put, 0, "a", 1, mark)
                    self.assert_refused(BadMark, store.drop, 0, "a", mark)
            self.assertEqual(told_of(store, many, ["a"]), told_of(Store(many), many, ["a"]))
            store.put(many - 1, "a", 1, (0,) * many)
            store.drop(many - 1, "a", (0,) * many)
            self.assertEqual(store.keys(many - 1), ["a"])

    def test_marks_of_looks_are_not_refused(self):
        put_alone(self.store, 0, "a", 1)
        self.assert_look(self.store, 0, "a", [1], (3, 0, 0))
        self.store.put(0, "a", 2, self.store.look(2, "a")[1])
        self.assert_look(self.store, 0, "a", [1, 2], (4, 0, 1))

    def test_what_is_handed_in_stays(self):
        for mark in [[0, 0, 0], [-1, 0, 0], {0: 0}]:
            before = copy.deepcopy(mark)
            self.assert_refused(BadMark, self.store.put, 0, "a", 9, mark)
            self.assertEqual(mark, before)


if __name__ == "__main__":
    unittest.main()
