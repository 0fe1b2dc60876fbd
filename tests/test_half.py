import unittest

from tests.helper import ask, begins, best, change, found, half, last, left, plain

CHAIN_OF_4 = [plain(), plain(0), plain(1), plain(2)]


class NothingTellsAnything(unittest.TestCase):
    def test_no_changes(self):
        self.assertEqual(last(half()), [0])

    def test_one_left(self):
        self.assertEqual(last(plain(), half()), [0])
        self.assertEqual(last(*CHAIN_OF_4, found(0, 1), half()), [0])

    def test_several_left_that_nothing_tells_apart(self):
        self.assertEqual(last(change(tried=0), change(tried=0), half()), [0])
        self.assertEqual(last(change(tried=0), plain(0), half()), [0])

    def test_after_begins(self):
        self.assertEqual(last(*CHAIN_OF_4, begins(), half()), [0])


class WhatHalves(unittest.TestCase):
    def halves(self, *calls):
        answered = last(*calls, half())
        self.assertEqual(answered[0], 1)
        return answered[1]

    def test_the_lesser_part_is_as_large_as_can_be(self):
        self.assertEqual(self.halves(*CHAIN_OF_4), 1)
        # 0 and 1 are apart, 2 is made upon both, 3 upon 2: of 2 three would be bad, of 0 and 1 one each.
        self.assertEqual(self.halves(plain(), plain(), plain(0, 1), plain(2), plain()), 2)

    def test_the_lesser_part_may_be_the_bad_or_the_good_ones(self):
        # Bad would be: of 3 two, of the others one.
        self.assertEqual(self.halves(plain(), plain(), plain(), plain(2), plain()), 3)
        # Good would be: of 2 two, of 3 one; of 0 and 4 one would be bad.
        told = [plain(), change(tried=0), plain(0, 1), plain(2), plain()]
        self.assertEqual(self.halves(*told), 2)

    def test_the_lowest_of_several(self):
        self.assertEqual(self.halves(plain(), plain(), plain()), 0)
        self.assertEqual(self.halves(plain(), plain(0), plain(1)), 0)
        self.assertEqual(self.halves(*CHAIN_OF_4, plain(3)), 1)
        self.assertEqual(self.halves(change(tried=0), plain(), plain()), 1)
        # Of 1 two would be bad, of 2 two would be good.
        self.assertEqual(self.halves(change(9), change(9, parents=[0]), plain(1), plain(2), plain(3)), 1)

    def test_what_cant_be_tried_doesnt_halve(self):
        self.assertEqual(self.halves(plain(), change(tried=0, parents=[0]), plain(1), plain(2)), 0)
        self.assertEqual(self.halves(change(tried=0), change(tried=0, parents=[0]), plain(1), plain(2)), 2)

    def test_costs_and_weights_make_no_difference(self):
        told = [change(1, 10000), change(10000, 0, 1, [0]), change(1, 0, 1, [1]), change(1, 0, 1, [2])]
        self.assertEqual(self.halves(*told), 1)

    def test_one_that_isnt_left_may_halve(self):
        told = [change(tried=0), change(tried=0), change(6, 1, 1, [0]), plain(0, 1)]
        self.assertEqual(last(*told, found(3, 1), half()), [1, 2, 6, 18])


class WhatItCosts(unittest.TestCase):
    def test_two_changes(self):
        # The lowest, though the other one costs less.
        self.assertEqual(last(change(5, 2), change(3, 4), half()), [1, 0, 5, 30])

    def test_a_chain(self):
        self.assertEqual(last(*CHAIN_OF_4, half()), [1, 1, 2, 8])
        told = [change(3, 1), change(5, 10, 1, [0]), change(7, 100, 1, [1]), change(9, 1000, 1, [2])]
        # 5 for all; if it's good, 7 for 2 and 3; if it's bad, 3 for 0 and 1.
        self.assertEqual(last(*told, half()), [1, 1, 12, 5 * 1111 + 7 * 1100 + 3 * 11])

    def test_changes_apart(self):
        told = [change(4, 1), change(9, 10), change(2, 100), change(5, 1000)]
        # 0, then 1, then 2, always in this order.
        self.assertEqual(last(*told, half()), [1, 0, 15, 4 * 1111 + 9 * 1110 + 2 * 1100])

    def test_till_nothing_tells_anything(self):
        told = [change(4), change(tried=0), change(tried=0), change(tried=0)]
        self.assertEqual(last(*told, half()), [1, 0, 4, 16])

    def test_weights_0(self):
        self.assertEqual(last(change(4, 0), change(5, 0), change(6, 0), half()), [1, 0, 9, 0])

    def test_it_costs_more_than_the_best_way(self):
        told = [change(9), change(3), change(2)]
        self.assertEqual(ask(*told, half(), best(0), best(1))[3:], [[1, 0, 12, 33], [1, 1, 5], [1, 2, 2 * 3 + 3 * 2]])

    def test_it_costs_more_though_each_try_costs_1(self):
        told = [change(1, 100), change(1, 1, 1, [0]), change(1, 1, 1, [1]), change(1, 1, 1, [2])]
        self.assertEqual(ask(*told, half(), best(0), best(1))[4:], [[1, 1, 2, 206], [1, 1, 2], [1, 0, 108]])

    def test_it_may_be_the_best_way_at_worst_and_not_on_the_average(self):
        told = [change(1, 0), change(1, 0, 1, [0]), change(1, 0, 1, [1]), change(1, 7, 1, [2])]
        self.assertEqual(ask(*told, half(), best(0), best(1))[4:], [[1, 1, 2, 14], [1, 1, 2], [1, 2, 7]])

    def test_the_largest_costs_and_weights(self):
        told = [change(10000, 10000) for c in range(7)]
        self.assertEqual(last(*told, half()), [1, 0, 60000, 100000000 * (7 + 6 + 5 + 4 + 3 + 2)])

    def test_after_finds(self):
        self.assertEqual(last(*CHAIN_OF_4, found(1, 1), half()), [1, 0, 1, 2])
        self.assertEqual(last(*CHAIN_OF_4, found(0, 0), half()), [1, 1, 2, 5])
        self.assertEqual(last(*CHAIN_OF_4, found(0, 0), found(2, 1), half()), [1, 1, 1, 2])


class ChangesNothing(unittest.TestCase):
    def test_more_may_be_told_afterwards(self):
        answered = ask(plain(), plain(0), half(), half(), plain(1), half(), left())
        self.assertEqual(answered[2:], [[1, 0, 1, 2], [1, 0, 1, 2], [2], [1, 0, 2, 5], [3, 0, 1, 2, 3]])
