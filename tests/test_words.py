"""The program beside the document's words, told once more in the slowest way."""

import itertools
import random
import unittest

from tests.helper import LARGEST, ask, begins, change, found, left, plain


class Told:
    """Keeps what was told and found as it was told, and works all out anew each time."""

    def __init__(self):
        self.changes = []
        self.finds = []

    def is_upon(self, c, one):
        return c == one or any(self.is_upon(parent, one) for parent in self.changes[c][3])

    def those_left(self, finds):
        return [
            one for one in range(len(self.changes))
            if all(self.is_upon(c, one) == bad for c, bad in finds)
        ]

    def answer(self, call):
        return [self.begins, self.change, self.found, self.left][call[0]](*call[1:])

    def begins(self):
        self.changes = []
        self.finds = []
        return [0]

    def change(self, cost, weight, tried, count, *parents):
        if cost not in range(1, 10001) or weight not in range(10001) or tried not in (0, 1):
            return [-1]
        if len(self.changes) >= 7:
            return [-7]
        if self.finds:
            return [-3]
        if any(parent >= len(self.changes) for parent in parents):
            return [-2]
        self.changes.append((cost, weight, tried, parents))
        return [len(self.changes) - 1]

    def found(self, c, bad):
        if c >= len(self.changes):
            return [-2]
        if self.changes[c][2] == 0:
            return [-4]
        finds = self.finds + [(c, bad != 0)]
        if not self.those_left(finds):
            return [-6]
        self.finds = finds
        return [len(self.those_left(finds))] + self.those_left(finds)

    def left(self):
        those = self.those_left(self.finds)
        return [len(those)] + those + [sum(self.changes[one][1] for one in those)]


def rows_of_parents(count):
    """All ways in which count changes can have parents, each told once."""
    rows = [
        [row for size in range(c + 1) for row in itertools.combinations(range(c), size)]
        for c in range(count)
    ]
    return itertools.product(*rows)


def some_number(chance, usual, odd):
    return chance.choice(usual) if chance.random() < 0.97 else chance.choice(odd)


def some_change(chance):
    return change(
        some_number(chance, [1, 2, 50, 10000], [0, 10001, LARGEST]),
        some_number(chance, [0, 1, 50, 10000], [10001, LARGEST]),
        some_number(chance, [0, 1, 1, 1], [2, LARGEST]),
        [some_number(chance, [0, 0, 1, 2, 3], [4, 5, 6, 7, LARGEST]) for n in range(chance.choice([0, 1, 1, 2, 3, 10]))],
    )


def some_call(chance):
    kind = chance.random()
    if kind < 0.03:
        return begins()
    if kind < 0.6:
        return some_change(chance)
    if kind < 0.75:
        return found(some_number(chance, range(7), [7, LARGEST]), chance.choice([0, 1, 1, 2, LARGEST]))
    return left()


class BesideTheWords(unittest.TestCase):
    def same(self, calls):
        told = Told()
        self.assertEqual(ask(*calls), [told.answer(call) for call in calls], calls)

    def test_all_pairs_of_finds_among_up_to_4_changes(self):
        for count in range(1, 5):
            all_finds = [found(c, bad) for c in range(count) for bad in (0, 1)]
            for rows in rows_of_parents(count):
                told = [plain(*row) for row in rows]
                for pair in itertools.product(all_finds, repeat=2):
                    self.same(told + list(pair) + [left()])

    def test_lines_of_all_kinds(self):
        chance = random.Random(94)
        for n in range(1500):
            self.same([some_call(chance) for call in range(chance.randint(1, 60))])

    def test_full_houses_and_many_finds(self):
        chance = random.Random(7)
        for n in range(1500):
            told = [plain(*chance.sample(range(c), chance.randint(0, min(c, 2)))) for c in range(7)]
            finds = [found(chance.randrange(7), chance.randrange(2)) for find in range(8)]
            self.same(told + finds + [left()])
