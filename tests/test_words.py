"""The program beside the document's words, told once more in the slowest way."""

import itertools
import random
import unittest

from tests.helper import LARGEST, ask, begins, best, change, found, half, left, plain, upon, way

DONE = ()


class Tries:
    """Ways of trying, as DONE or as what's tried, the way if it's good, the way if it's bad."""

    def __init__(self, costs, weights, bad_for):
        self.costs = costs
        self.weights = weights
        # By each change that can be tried: those for which it's bad.
        self.bad_for = bad_for
        self.ways_of = {}

    def parts(self, those, c):
        if_good = tuple(one for one in those if one not in self.bad_for[c])
        if_bad = tuple(one for one in those if one in self.bad_for[c])
        return if_good, if_bad

    def telling(self, those):
        return [c for c in self.bad_for if all(self.parts(those, c))]

    def cost_for(self, a_way, one):
        cost = 0
        while a_way != DONE:
            cost += self.costs[a_way[0]]
            a_way = a_way[2 if one in self.bad_for[a_way[0]] else 1]
        return cost

    def cost(self, a_way, those, kind):
        if kind == 0:
            return max((self.cost_for(a_way, one) for one in those), default=0)
        return sum(self.weights[one] * self.cost_for(a_way, one) for one in those)

    def finds_surely(self, a_way, those):
        if a_way == DONE:
            return self.telling(those) == []
        return all(self.finds_surely(*pair) for pair in zip(a_way[1:], self.parts(those, a_way[0])))

    def tries_nothing_that_tells_nothing(self, a_way, those):
        if a_way == DONE:
            return True
        parts = self.parts(those, a_way[0])
        return all(parts) and all(self.tries_nothing_that_tells_nothing(*pair) for pair in zip(a_way[1:], parts))

    def surely_finding(self, those):
        """All ways that find surely and try nothing that tells nothing."""
        if those not in self.ways_of:
            self.ways_of[those] = [
                (c, if_good, if_bad)
                for c in self.telling(those)
                for if_good in self.surely_finding(self.parts(those, c)[0])
                for if_bad in self.surely_finding(self.parts(those, c)[1])
            ] or [DONE]
        return self.ways_of[those]

    def best(self, those, kind):
        if self.telling(those) == []:
            return DONE
        by_cost = [(self.cost(a_way, those, kind), a_way[0]) for a_way in self.surely_finding(those)]
        first = min(by_cost)[1]
        if_good, if_bad = self.parts(those, first)
        return first, self.best(if_good, kind), self.best(if_bad, kind)

    def halving(self, those):
        telling = self.telling(those)
        if telling == []:
            return DONE
        first = sorted(telling, key=lambda c: (-min(len(part) for part in self.parts(those, c)), c))[0]
        if_good, if_bad = self.parts(those, first)
        return first, self.halving(if_good), self.halving(if_bad)

    def whatever_they_tell(self, those, most):
        """All ways of at most so many tries one behind another, those that tell nothing among them."""
        if those == () or most == 0:
            return [DONE]
        return [DONE] + [
            (c, if_good, if_bad)
            for c in self.bad_for
            for if_good in self.whatever_they_tell(self.parts(those, c)[0], most - 1)
            for if_bad in self.whatever_they_tell(self.parts(those, c)[1], most - 1)
        ]


def in_numbers(a_way):
    return [0] if a_way == DONE else [a_way[0] + 1] + in_numbers(a_way[1]) + in_numbers(a_way[2])


def out_of_numbers(numbers):
    """The way with which the numbers begin, and the numbers behind it."""
    if numbers[0] == 0:
        return DONE, numbers[1:]
    if_good, behind = out_of_numbers(numbers[1:])
    if_bad, behind = out_of_numbers(behind)
    return (numbers[0] - 1, if_good, if_bad), behind


class Told:
    """Keeps what was told and found as it was told, and works all out anew each time."""

    def __init__(self):
        self.changes = []
        self.finds = []
        self.kept_tries = None

    def is_upon(self, c, one):
        return c == one or any(self.is_upon(parent, one) for parent in self.changes[c][3])

    def those_left(self, finds):
        return [
            one for one in range(len(self.changes))
            if all(self.is_upon(c, one) == bad for c, bad in finds)
        ]

    def answer(self, call):
        named = [self.begins, self.change, self.found, self.left, self.best, self.way, self.half, self.upon]
        return named[call[0]](*call[1:])

    def begins(self):
        self.changes = []
        self.finds = []
        return [0]

    def change(self, cost, weight, tried, count, *parents):
        if cost not in range(1, 10001) or weight not in range(10001) or tried not in (0, 1):
            return [-1]
        if len(self.changes) >= 7:
            return [-7]
        if self.finds:
            return [-3]
        if any(parent >= len(self.changes) for parent in parents):
            return [-2]
        self.changes.append((cost, weight, tried, parents))
        return [len(self.changes) - 1]

    def found(self, c, bad):
        if c >= len(self.changes):
            return [-2]
        if self.changes[c][2] == 0:
            return [-4]
        finds = self.finds + [(c, bad != 0)]
        if not self.those_left(finds):
            return [-6]
        self.finds = finds
        return [len(self.those_left(finds))] + self.those_left(finds)

    def left(self):
        those = self.those_left(self.finds)
        return [len(those)] + those + [sum(self.changes[one][1] for one in those)]

    def tries(self):
        if self.kept_tries is None or self.kept_tries[0] != self.changes:
            numbered = range(len(self.changes))
            bad_for = {
                c: [one for one in numbered if self.is_upon(c, one)]
                for c in numbered if self.changes[c][2] == 1
            }
            costs, weights = [told[0] for told in self.changes], [told[1] for told in self.changes]
            self.kept_tries = list(self.changes), Tries(costs, weights, bad_for)
        return self.kept_tries[1]

    def best(self, kind):
        if kind not in (0, 1):
            return [-1]
        those = tuple(self.those_left(self.finds))
        a_way = self.tries().best(those, kind)
        return [0] if a_way == DONE else [1, a_way[0], self.tries().cost(a_way, those, kind)]

    def way(self, kind):
        if kind not in (0, 1):
            return [-1]
        those = tuple(self.those_left(self.finds))
        a_way = self.tries().best(those, kind)
        return [self.tries().cost(a_way, those, kind)] + in_numbers(a_way)

    def half(self):
        those = tuple(self.those_left(self.finds))
        a_way = self.tries().halving(those)
        if a_way == DONE:
            return [0]
        return [1, a_way[0]] + [self.tries().cost(a_way, those, kind) for kind in (0, 1)]

    def upon(self, c):
        if c >= len(self.changes):
            return [-2]
        those = [one for one in range(c + 1) if self.is_upon(c, one)]
        return [len(those)] + those


def rows_of_parents(count):
    """All ways in which count changes can have parents, each told once."""
    rows = [
        [row for size in range(c + 1) for row in itertools.combinations(range(c), size)]
        for c in range(count)
    ]
    return itertools.product(*rows)


def some_number(chance, usual, odd):
    return chance.choice(usual) if chance.random() < 0.97 else chance.choice(odd)


def some_change(chance):
    return change(
        some_number(chance, [1, 2, 50, 10000], [0, 10001, LARGEST]),
        some_number(chance, [0, 1, 50, 10000], [10001, LARGEST]),
        some_number(chance, [0, 1, 1, 1], [2, LARGEST]),
        [
            some_number(chance, [0, 0, 1, 2, 3], [4, 5, 6, 7, LARGEST])
            for n in range(chance.choice([0, 1, 1, 2, 3, 10]))
        ],
    )


def some_call(chance):
    kind = chance.random()
    if kind < 0.03:
        return begins()
    if kind < 0.55:
        return some_change(chance)
    if kind < 0.65:
        return found(some_number(chance, range(7), [7, LARGEST]), chance.choice([0, 1, 1, 2, LARGEST]))
    if kind < 0.75:
        return upon(some_number(chance, range(7), [7, LARGEST]))
    if kind < 0.85:
        return left()
    if kind < 0.9:
        return half()
    return chance.choice([best, way])(some_number(chance, [0, 1], [2, LARGEST]))


def some_line(chance):
    line = []
    for n in range(chance.randint(1, 60)):
        call = some_call(chance)
        if call[0] not in (4, 5, 6) or len([one for one in line if one[0] in (4, 5, 6)]) < 8:
            line.append(call)
    return line or [left()]


def some_house(chance, count):
    """Changes as the numbers' edges and the middle mix them, with up to three parents each."""
    costs = chance.choice([[1], [1, 2, 3], [1, 10000], [1, 5, 20, 300]])
    weights = chance.choice([[0], [1], [0, 1, 2], [0, 10000], [1, 10, 100, 1000]])
    tried = chance.choice([[1], [1, 1, 1, 0], [0, 1]])
    return [
        change(
            chance.choice(costs), chance.choice(weights), chance.choice(tried),
            chance.sample(range(c), chance.randint(0, min(c, 3))),
        )
        for c in range(count)
    ]


def small_house(chance, tried, rows):
    return [change(chance.choice([1, 2, 9]), chance.choice([0, 1, 7]), *pair) for pair in zip(tried, rows)]


ABOUT_WAYS = [best(0), best(1), way(0), way(1), half()]


class BesideTheWords(unittest.TestCase):
    def same(self, calls):
        told = Told()
        self.assertEqual(ask(*calls), [told.answer(call) for call in calls], calls)

    def test_all_pairs_of_finds_among_up_to_4_changes(self):
        for count in range(1, 5):
            all_finds = [found(c, bad) for c in range(count) for bad in (0, 1)]
            for rows in rows_of_parents(count):
                told = [plain(*row) for row in rows]
                for pair in itertools.product(all_finds, repeat=2):
                    self.same(told + list(pair) + [left()])

    def test_all_parents_of_up_to_4_changes_and_all_that_can_be_tried(self):
        chance = random.Random(31)
        for count in range(1, 5):
            for rows in rows_of_parents(count):
                for tried in itertools.product([0, 1], repeat=count):
                    told = small_house(chance, tried, rows)
                    self.same(told + ABOUT_WAYS + [upon(c) for c in range(count + 1)])

    def test_all_parents_and_all_first_finds_among_up_to_4_changes(self):
        chance = random.Random(12)
        for count in range(2, 5):
            for rows in rows_of_parents(count):
                for c, bad in itertools.product(range(count), [0, 1]):
                    told = small_house(chance, [1] * count, rows)
                    self.same(told + [found(c, bad)] + ABOUT_WAYS)

    def test_all_parents_and_all_small_costs_and_weights_of_3_changes(self):
        for rows in rows_of_parents(3):
            for costs in itertools.product([1, 2, 4], repeat=3):
                for weights in itertools.product([0, 1, 3], repeat=3):
                    self.same([change(costs[c], weights[c], 1, rows[c]) for c in range(3)] + ABOUT_WAYS)

    def test_the_eight_calls_in_any_order(self):
        some = [begins(), change(3, 2), change(1, 5, 1, [0]), change(2, 1, 0, [0, 1]), found(0, 1), found(1, 0), left()]
        some += [best(0), way(1), half(), upon(1)]
        for count in range(1, 5):
            for line in itertools.product(some, repeat=count):
                self.same(list(line))

    def test_lines_of_all_kinds(self):
        chance = random.Random(94)
        for n in range(2000):
            self.same(some_line(chance))

    def test_full_houses_and_many_finds(self):
        chance = random.Random(7)
        for n in range(1500):
            told = [plain(*chance.sample(range(c), chance.randint(0, min(c, 2)))) for c in range(7)]
            finds = [found(chance.randrange(7), chance.randrange(2)) for find in range(8)]
            self.same(told + finds + [left()])

    def test_ways_in_houses_of_5_to_7_changes(self):
        chance = random.Random(58)
        for n in range(300):
            count = chance.randint(5, 7)
            finds = [found(chance.randrange(count), chance.randrange(2)) for find in range(chance.randint(0, 2))]
            self.same(some_house(chance, count) + finds + ABOUT_WAYS + [upon(c) for c in range(count)])


class NoWayCostsLess(unittest.TestCase):
    """What's answered is weighed by itself, beside every way that there is."""

    def house(self, calls):
        told = Told()
        for call in calls:
            told.answer(call)
        return told.tries(), tuple(told.those_left(told.finds))

    def check(self, calls, other_ways):
        tries, those = self.house(calls)
        answered = ask(*calls, *ABOUT_WAYS)[-5:]
        others = other_ways(tries, those)
        for kind in (0, 1):
            cost = answered[2 + kind][0]
            a_way, behind = out_of_numbers(answered[2 + kind][1:])
            self.assertEqual(behind, [], calls)
            self.assertTrue(tries.finds_surely(a_way, those), calls)
            self.assertTrue(tries.tries_nothing_that_tells_nothing(a_way, those), calls)
            self.assertEqual(tries.cost(a_way, those, kind), cost, calls)
            self.assertEqual(answered[kind], [0] if a_way == DONE else [1, a_way[0], cost], calls)
            for other in others:
                self.assertLessEqual(cost, tries.cost(other, those, kind), (calls, other))
            if answered[4] != [0]:
                self.assertLessEqual(cost, answered[4][2 + kind], calls)

    def surely_finding(self, tries, those):
        ways = tries.surely_finding(those)
        for a_way in ways:
            self.assertTrue(tries.finds_surely(a_way, those))
        return ways

    def whatever_they_tell(self, tries, those):
        return [a_way for a_way in tries.whatever_they_tell(those, 3) if tries.finds_surely(a_way, those)]

    def test_up_to_3_changes_beside_ways_that_try_whatever_it_tells(self):
        chance = random.Random(3)
        for count in range(1, 4):
            for rows in rows_of_parents(count):
                for tried in itertools.product([0, 1], repeat=count):
                    self.check(small_house(chance, tried, rows), self.whatever_they_tell)

    def test_all_parents_of_4_changes(self):
        chance = random.Random(4)
        for rows in rows_of_parents(4):
            for tried in itertools.product([0, 1], repeat=4):
                self.check(small_house(chance, tried, rows), self.surely_finding)

    def test_houses_of_5_to_7_changes(self):
        chance = random.Random(57)
        for n in range(300):
            self.check(some_house(chance, chance.randint(5, 7)), self.surely_finding)
