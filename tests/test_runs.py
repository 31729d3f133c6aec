"""Drawn runs of a store, beside the test's own sets of the changes that each keeper knows."""

import random
import unittest
from collections import namedtuple

from siblingshelf.marks import joined
from siblingshelf.stores import Store

# A put has its number among the puts at its keeper; a drop has None. `seen` is a frozenset of changes.
Change = namedtuple("Change", "place keeper number value seen")

# What a hand remembers of a look, and what was known where and when a letter was written.
Look = namedtuple("Look", "mark known")
Letter = namedtuple("Letter", "key letter known")

KEYS = ["", "a", "A", "a "]


class Run:
    """A store, and what its keepers know by the words of the document."""

    def __init__(self, draw, many, keys):
        self.draw = draw
        self.many = many
        self.keys = keys
        self.store = Store(many)
        self.changes = []
        self.known = {(keeper, key): frozenset() for keeper in range(many) for key in keys}
        self.puts = {place: 0 for place in self.known}
        self.looks = {key: [Look((0,) * many, frozenset())] for key in keys}
        self.letters = []

    def drawn_place(self):
        return self.draw.randrange(self.many), self.draw.choice(self.keys)

    def look(self, keeper, key):
        mark = self.store.look(keeper, key)[1]
        self.looks[key].append(Look(mark, self.known[keeper, key]))
        return self.looks[key][-1]

    def drawn_hand(self, keeper, key):
        """A hand that has not looked, or at once, or at some time, or more than once."""
        way = self.draw.randrange(5)
        if way == 0:
            return self.looks[key][0]
        if way <= 2:
            return self.look(keeper, key)
        if way == 3:
            return self.draw.choice(self.looks[key])
        first, second, third = self.draw.choices(self.looks[key], k=3)
        mark = joined(joined(first.mark, second.mark), third.mark)
        return Look(mark, first.known | second.known | third.known)

    def change(self, keeper, key, number, value, seen):
        change = Change(len(self.changes), keeper, number, value, seen)
        self.changes.append(change)
        self.known[keeper, key] |= {change.place} | seen

    def put(self, keeper, key):
        hand = self.drawn_hand(keeper, key)
        value = self.draw.randrange(-3, 4)
        self.store.put(keeper, key, value, hand.mark)
        self.puts[keeper, key] += 1
        self.change(keeper, key, self.puts[keeper, key], value, hand.known)

    def drop(self, keeper, key):
        hand = self.drawn_hand(keeper, key)
        self.store.drop(keeper, key, hand.mark)
        self.change(keeper, key, None, None, hand.known)

    def write(self, keeper, key):
        letter = Letter(key, self.store.letter(keeper, key), self.known[keeper, key])
        self.letters.append(letter)
        return letter

    def take(self, keeper, letter):
        self.store.take(keeper, letter.letter)
        self.known[keeper, letter.key] |= letter.known

    def step(self):
        """One drawn step of the run."""
        keeper, key = self.drawn_place()
        way = self.draw.randrange(10)
        if way < 3:
            self.put(keeper, key)
        elif way < 4:
            self.drop(keeper, key)
        elif way < 5:
            self.look(keeper, key)
        elif way < 7 or not self.letters:
            self.write(keeper, key)
        else:
            self.take(keeper, self.draw.choice(self.letters))

    def expected(self, keeper, key):
        """What a look must tell by what the keeper knows."""
        known = [self.changes[place] for place in self.known[keeper, key]]
        gone = frozenset().union(*[change.seen for change in known])
        puts = sorted([(put.keeper, put.number, put.value, put.place) for put in known if put.number is not None])
        values = [value for _, _, value, place in puts if place not in gone]
        mark = tuple(len([put for put in puts if put[0] == other]) for other in range(self.many))
        return values, mark

    def expected_keys(self, keeper):
        return sorted([key for key in self.keys if self.expected(keeper, key)[0]])

    def exchange(self):
        """Let all keepers take letters of all of them, each one in an order of its own."""
        for key in self.keys:
            letters = [self.write(keeper, key) for keeper in range(self.many)]
            for keeper in range(self.many):
                for letter in self.draw.sample(letters, self.many):
                    self.take(keeper, letter)


class RunTest(unittest.TestCase):
    def assert_as_expected(self, run):
        for keeper in range(run.many):
            for key in run.keys:
                self.assertEqual(run.store.look(keeper, key), run.expected(keeper, key))
            self.assertEqual(run.store.keys(keeper), run.expected_keys(keeper))

    def runs(self, count, most_keepers, most_keys, most_steps):
        for seed in range(count):
            draw = random.Random(seed)
            run = Run(draw, draw.randint(1, most_keepers), KEYS[:draw.randint(1, most_keys)])
            yield seed, run, draw.randint(1, most_steps)

    def test_few_keepers_at_each_step(self):
        for seed, run, steps in self.runs(300, 3, 2, 30):
            with self.subTest(seed=seed):
                for _ in range(steps):
                    run.step()
                    self.assert_as_expected(run)

    def test_one_key_at_each_step(self):
        for seed, run, steps in self.runs(100, 4, 1, 60):
            with self.subTest(seed=seed):
                for _ in range(steps):
                    run.step()
                    self.assert_as_expected(run)

    def test_up_to_nine_keepers(self):
        for seed, run, steps in self.runs(100, 9, 4, 300):
            with self.subTest(seed=seed):
                for _ in range(steps):
                    run.step()
                self.assert_as_expected(run)

    def test_when_all_know_all(self):
        for seed, run, steps in self.runs(150, 9, 3, 120):
            with self.subTest(seed=seed):
                for _ in range(steps):
                    run.step()
                run.exchange()
                self.assert_as_expected(run)
                told = {key: run.store.look(0, key) for key in run.keys}
                for keeper in range(run.many):
                    self.assertEqual({key: run.store.look(keeper, key) for key in run.keys}, told)
                    self.assertEqual(run.store.keys(keeper), run.store.keys(0))
                run.exchange()
                for letter in run.letters:
                    run.take(run.draw.randrange(run.many), letter)
                for keeper in range(run.many):
                    self.assertEqual({key: run.store.look(keeper, key) for key in run.keys}, told)


if __name__ == "__main__":
    unittest.main()
