import unittest

from tests.helper import LARGEST, ask, change, found, last, left, plain

CHAIN = [plain(), plain(0), plain(1), plain(2)]
FORK_JOINED = [plain(), plain(0), plain(0), plain(1, 2)]


class BadAndGood(unittest.TestCase):
    def test_bad_leaves_what_it_is_made_upon(self):
        self.assertEqual(last(*CHAIN, found(1, 1)), [2, 0, 1])
        self.assertEqual(last(*FORK_JOINED, found(2, 1)), [2, 0, 2])

    def test_good_leaves_the_others(self):
        self.assertEqual(last(*CHAIN, found(1, 0)), [2, 2, 3])
        self.assertEqual(last(*FORK_JOINED, found(2, 0)), [2, 1, 3])

    def test_other_numbers_are_taken_as_1(self):
        for bad in [1, 2, 3, 10001, LARGEST]:
            with self.subTest(bad=bad):
                self.assertEqual(ask(*CHAIN, found(1, bad), left())[4:], [[2, 0, 1], [2, 0, 1, 2]])

    def test_what_is_left_narrows_with_each_find(self):
        answered = ask(*CHAIN, found(2, 1), found(0, 0), found(1, 0))
        self.assertEqual(answered[4:], [[3, 0, 1, 2], [2, 1, 2], [1, 2]])

    def test_forks_narrow_from_both_sides(self):
        self.assertEqual(ask(*FORK_JOINED, found(1, 1), found(2, 1))[4:], [[2, 0, 1], [1, 0]])
        self.assertEqual(ask(*FORK_JOINED, found(1, 0), found(2, 0))[4:], [[2, 2, 3], [1, 3]])

    def test_one_that_is_no_longer_left_can_be_found(self):
        self.assertEqual(ask(*CHAIN, found(1, 1), found(3, 1))[4:], [[2, 0, 1], [2, 0, 1]])

    def test_those_that_cannot_be_tried_and_weigh_nothing_can_be_left(self):
        told = [change(weight=0, tried=0), plain(0)]
        self.assertEqual(last(*told, found(1, 1)), [2, 0, 1])

    def test_the_same_twice(self):
        self.assertEqual(ask(*CHAIN, found(1, 1), found(1, 1))[4:], [[2, 0, 1], [2, 0, 1]])
        self.assertEqual(ask(*CHAIN, found(1, 0), found(1, 0))[4:], [[2, 2, 3], [2, 2, 3]])
        self.assertEqual(ask(*CHAIN, found(1, 1), found(1, 2))[4:], [[2, 0, 1], [2, 0, 1]])


class Refusals(unittest.TestCase):
    def test_no_such_change(self):
        self.assertEqual(last(found(0, 1)), [-2])
        for c in [4, 5, LARGEST]:
            for bad in [0, 1, LARGEST]:
                with self.subTest(c=c, bad=bad):
                    self.assertEqual(last(*CHAIN, found(c, bad)), [-2])

    def test_it_cannot_be_tried(self):
        for bad in [0, 1, LARGEST]:
            with self.subTest(bad=bad):
                self.assertEqual(last(plain(), change(tried=0), found(1, bad)), [-4])

    def test_none_would_be_left(self):
        self.assertEqual(last(plain(), found(0, 0)), [-6])
        self.assertEqual(last(*CHAIN, found(3, 0)), [-6])
        self.assertEqual(last(*CHAIN, found(1, 0), found(1, 1)), [-6])
        self.assertEqual(last(*CHAIN, found(1, 1), found(1, 0)), [-6])
        self.assertEqual(last(*CHAIN, found(1, 0), found(0, LARGEST)), [-6])

    def test_no_such_change_ahead_of_none_left(self):
        self.assertEqual(last(found(0, 0)), [-2])
        self.assertEqual(last(plain(), found(0, 1), found(1, 1)), [-2])

    def test_no_such_change_where_none_can_be_tried(self):
        self.assertEqual(last(change(tried=0), found(1, 1)), [-2])

    def test_cannot_be_tried_ahead_of_none_left(self):
        self.assertEqual(last(change(tried=0), found(0, 0)), [-4])
        self.assertEqual(last(plain(), change(tried=0, parents=[0]), found(0, 1), found(1, 0)), [-4])

    def test_what_is_left_is_as_it_was(self):
        told = CHAIN + [change(weight=7, tried=0), found(1, 0)]
        for refused in [found(5, 1), found(4, 0), found(4, 1), found(0, 1), found(1, 1)]:
            with self.subTest(refused=refused):
                answered = ask(*told, left(), refused, left(), found(2, 1))
                self.assertLess(answered[7][0], 0)
                self.assertEqual(len(answered[7]), 1)
                self.assertEqual(answered[6], [3, 2, 3, 4, 9])
                self.assertEqual(answered[8:], [[3, 2, 3, 4, 9], [1, 2]])
