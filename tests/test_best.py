import itertools
import unittest

from tests.helper import AT_WORST, LARGEST, ON_THE_AVERAGE, ask, begins, best, change, found, last, left, plain

BOTH = [best(AT_WORST), best(ON_THE_AVERAGE)]


def chain(costs, weights, tried=None):
    """Each change is made upon the one before: it's bad if the one is it or an earlier one."""
    tried = tried or [1] * len(costs)
    return [
        change(costs[c], weights[c], tried[c], [c - 1] if c else [])
        for c in range(len(costs))
    ]


def apart(costs, weights, tried=None):
    """No change has a parent: it's bad if it's the one itself."""
    tried = tried or [1] * len(costs)
    return [change(*numbers) for numbers in zip(costs, weights, tried)]


class NothingToTry(unittest.TestCase):
    def both(self, calls, answered):
        self.assertEqual(ask(*calls, *BOTH)[-2:], answered)

    def test_no_changes(self):
        self.both([], [[0], [0]])

    def test_one_change(self):
        self.both([plain()], [[0], [0]])
        self.both([change(tried=0)], [[0], [0]])

    def test_one_left(self):
        self.both([plain(), plain(0), found(0, 1)], [[0], [0]])
        self.both([plain(), plain(0), found(0, 0)], [[0], [0]])

    def test_several_left_that_nothing_tells_apart(self):
        self.both([change(tried=0), change(tried=0), change(tried=0)], [[0], [0]])
        # Of the last one all would be bad.
        self.both([change(tried=0), change(tried=0, parents=[0]), plain(1)], [[0], [0]])

    def test_several_left_that_nothing_tells_apart_any_more(self):
        told = [change(tried=0), change(tried=0), plain(0, 1), plain()]
        self.assertEqual(ask(*told, best(AT_WORST), found(2, 1), *BOTH)[-4:], [[1, 2, 1], [3, 0, 1, 2], [0], [0]])

    def test_after_begins(self):
        self.both([plain(), plain(0), begins()], [[0], [0]])
        self.both([plain(), plain(0), begins(), plain()], [[0], [0]])


class AtWorst(unittest.TestCase):
    def first(self, *calls):
        return last(*calls, best(AT_WORST))

    def test_two_changes(self):
        self.assertEqual(self.first(change(5), change(9, parents=[0])), [1, 0, 5])
        self.assertEqual(self.first(change(5), change(3)), [1, 1, 3])

    def test_chains_of_like_costs(self):
        self.assertEqual(self.first(*chain([1] * 3, [1] * 3)), [1, 0, 2])
        self.assertEqual(self.first(*chain([1] * 4, [1] * 4)), [1, 1, 2])
        self.assertEqual(self.first(*chain([1] * 5, [1] * 5)), [1, 0, 3])
        self.assertEqual(self.first(*chain([1] * 7, [1] * 7)), [1, 2, 3])

    def test_changes_apart(self):
        # One behind another, the dearest never: the order makes no difference at worst.
        self.assertEqual(self.first(*apart([4, 9, 2, 5], [1] * 4)), [1, 0, 11])

    def test_chains_of_unlike_costs(self):
        # 1 must be tried wherever 1 and 2 are left; first of all it costs 8 + 1, behind 0 and 2 it's 10.
        self.assertEqual(self.first(*chain([1, 8, 1, 1], [1] * 4)), [1, 1, 9])
        self.assertEqual(self.first(*chain([1, 9, 5, 1], [1] * 4)), [1, 1, 14])
        # 0 first: 5, then 1; 1 first: 1, then 5. The dear 2 tells nothing.
        self.assertEqual(self.first(*chain([5, 1, 9], [1] * 3)), [1, 0, 6])

    def test_a_fork_that_is_joined_again(self):
        # 1 tells 1 and 3 apart, 2 tells 2 and 3 apart: each of the two first, then the other one, or 0.
        self.assertEqual(self.first(plain(), change(9, parents=[0]), plain(0), plain(1, 2)), [1, 1, 10])
        self.assertEqual(self.first(change(9), change(9, parents=[0]), plain(0), plain(1, 2)), [1, 1, 10])
        self.assertEqual(self.first(plain(), change(9, 1, 0, [0]), change(7, parents=[0]), plain(1, 2)), [1, 0, 8])

    def test_weights_make_no_difference(self):
        for weights in itertools.product([0, 1, 10000], repeat=4):
            self.assertEqual(self.first(*chain([1] * 4, weights)), [1, 1, 2])

    def test_the_lowest_of_several(self):
        self.assertEqual(self.first(*apart([2] * 5, [1] * 5)), [1, 0, 8])
        # Both tell the same two apart for the same cost.
        self.assertEqual(self.first(plain(), plain()), [1, 0, 1])
        # 1 and 2 tell the same; nothing tells 0 and 2 apart.
        self.assertEqual(self.first(change(tried=0), plain(), plain(0)), [1, 1, 1])

    def test_a_later_one_if_it_costs_less(self):
        self.assertEqual(self.first(change(3), change(2), change(4)), [1, 0, 5])
        self.assertEqual(self.first(change(3), change(2)), [1, 1, 2])


class OnTheAverage(unittest.TestCase):
    def first(self, *calls):
        return last(*calls, best(ON_THE_AVERAGE))

    def test_two_changes(self):
        self.assertEqual(self.first(change(5, 2), change(9, 4, parents=[0])), [1, 0, 30])
        self.assertEqual(self.first(change(5, 2), change(3, 4)), [1, 1, 18])

    def test_the_likeliest_first(self):
        # 1 for all; then 1 for the other three; then for the last two.
        self.assertEqual(self.first(*apart([1] * 4, [1, 2, 3, 90])), [1, 3, 96 + 6 + 3])

    def test_the_cheap_ones_sooner(self):
        # 0 costs 10 for 2 + 1; 1 first: 1 for 2 + 1 is all that's needed.
        self.assertEqual(self.first(*apart([10, 1], [2, 1])), [1, 1, 3])
        # 0 first: 10 * 12 + 2 * 2; 1 first: 2 * 12 + 3 * 11; 2 first: 3 * 12 + 2 * 11.
        self.assertEqual(self.first(*apart([10, 2, 3], [10, 1, 1])), [1, 1, 57])

    def test_weights_of_those_left_alone(self):
        told = chain([1] * 4, [100, 1, 1, 1])
        self.assertEqual(self.first(*told), [1, 0, 103 + 3 + 2])
        self.assertEqual(self.first(*told, found(0, 0)), [1, 1, 3 + 2])
        self.assertEqual(self.first(*told, found(1, 1)), [1, 0, 101])

    def test_the_lowest_of_several(self):
        self.assertEqual(self.first(*apart([2] * 3, [5] * 3)), [1, 0, 2 * 15 + 2 * 10])
        self.assertEqual(self.first(*chain([1] * 3, [1] * 3)), [1, 0, 5])

    def test_all_weights_0(self):
        self.assertEqual(self.first(*chain([9, 1, 1], [0] * 3)), [1, 0, 0])
        # 2 is made upon all: it tells nothing. 0 can't be tried.
        told = [change(1, 0, 0), change(10000, 0), change(1, 0, 1, [0, 1])]
        self.assertEqual(self.first(*told), [1, 1, 0])
        told = [change(1, 0, 0), change(1, 0, 0), change(10000, 0, 1, [0, 1]), change(1, 0)]
        self.assertEqual(self.first(*told), [1, 2, 0])

    def test_what_tells_nothing_of_those_left_isnt_tried_though_it_costs_0(self):
        told = chain([1, 1, 1, 7], [5, 0, 0, 0])
        self.assertEqual(self.first(*told, found(0, 0)), [1, 1, 0])
        self.assertEqual(self.first(*told, found(0, 0), found(1, 0)), [1, 2, 0])
        self.assertEqual(self.first(*told, found(0, 0), found(1, 0), found(2, 0)), [0])

    def test_the_largest_costs_and_weights(self):
        told = apart([10000] * 7, [10000] * 7)
        self.assertEqual(self.first(*told), [1, 0, 100000000 * (7 + 6 + 5 + 4 + 3 + 2)])


class TheTwoKinds(unittest.TestCase):
    def test_they_try_different_changes_first(self):
        told = chain([1] * 4, [100, 1, 1, 1])
        self.assertEqual(ask(*told, *BOTH)[-2:], [[1, 1, 2], [1, 0, 108]])
        told = chain([1] * 4, [1, 1, 1, 100])
        self.assertEqual(ask(*told, *BOTH)[-2:], [[1, 1, 2], [1, 2, 108]])

    def test_on_the_average_the_dear_one_is_tried_later(self):
        told = [plain(), change(9, parents=[0]), plain(0), plain(1, 2)]
        self.assertEqual(ask(*told, *BOTH)[-2:], [[1, 1, 10], [1, 2, 4 + 2 + 18]])

    def test_they_try_the_same_change_for_different_costs(self):
        self.assertEqual(ask(*chain([3] * 4, [2] * 4), *BOTH)[-2:], [[1, 1, 6], [1, 1, 48]])


class WhatIsTried(unittest.TestCase):
    def test_one_that_isnt_left_may_be_tried(self):
        # 3 is found bad, so 2 can't be the one; it alone tells 0 and 1 apart.
        told = [change(tried=0), change(tried=0), change(6, 1, 1, [0]), plain(0, 1)]
        self.assertEqual(ask(*told, found(3, 1), *BOTH)[-3:], [[3, 0, 1, 3], [1, 2, 6], [1, 2, 18]])

    def test_one_that_isnt_left_is_tried_where_its_cheaper(self):
        # 2 tells what 0 tells: then 1 tells 1 and 3 apart. At worst 1 may as well be tried first.
        told = [change(9), change(9), change(2, 1, 1, [0]), change(5, 1, 1, [0, 1])]
        self.assertEqual(ask(*told, found(3, 1), *BOTH)[-3:], [[3, 0, 1, 3], [1, 1, 11], [1, 2, 2 * 3 + 9 * 2]])

    def test_one_that_cant_be_tried_isnt(self):
        self.assertEqual(ask(*chain([1] * 4, [1] * 4, [1, 0, 1, 1]), *BOTH)[-2:], [[1, 0, 2], [1, 0, 4 + 3]])
        self.assertEqual(ask(*chain([9, 1, 9], [1] * 3, [1, 0, 1]), *BOTH)[-2:], [[1, 0, 9], [1, 0, 27]])

    def test_one_that_was_tried_tells_nothing(self):
        told = chain([1] * 4, [1] * 4)
        self.assertEqual(last(*told, found(1, 1), best(AT_WORST)), [1, 0, 1])
        self.assertEqual(last(*told, found(1, 0), best(AT_WORST)), [1, 2, 1])

    def test_a_find_that_was_refused_changes_nothing(self):
        told = chain([1] * 4, [1] * 4, [1, 0, 1, 1])
        refused = [found(1, 1), found(4, 1), found(3, 0)]
        answered = ask(*told, *BOTH, *refused, *BOTH)
        self.assertEqual(answered[6:9], [[-4], [-2], [-6]])
        self.assertEqual(answered[4:6], answered[9:])


class Refused(unittest.TestCase):
    def test_kinds_that_there_arent(self):
        for kind in (2, 3, LARGEST):
            self.assertEqual(last(best(kind)), [-1])
            self.assertEqual(last(plain(), best(kind)), [-1])
            self.assertEqual(last(*chain([1] * 4, [1] * 4), found(1, 1), best(kind)), [-1])

    def test_all_is_as_it_was(self):
        answered = ask(plain(), plain(0), best(2), plain(1), left(), best(LARGEST), best(0))
        self.assertEqual(answered, [[0], [1], [-1], [2], [3, 0, 1, 2, 3], [-1], [1, 0, 2]])


class ChangesNothing(unittest.TestCase):
    def test_more_may_be_told_afterwards(self):
        answered = ask(plain(), plain(0), *BOTH, plain(1), *BOTH, left())
        self.assertEqual(answered, [[0], [1], [1, 0, 1], [1, 0, 2], [2], [1, 0, 2], [1, 0, 5], [3, 0, 1, 2, 3]])

    def test_asked_again(self):
        told = chain([1, 2, 3, 4], [4, 3, 2, 1])
        answered = ask(*told, *BOTH, *BOTH, *BOTH)
        self.assertEqual(answered[4:6], answered[6:8])
        self.assertEqual(answered[4:6], answered[8:])
