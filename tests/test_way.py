import unittest

from tests.helper import AT_WORST, LARGEST, ON_THE_AVERAGE, ask, begins, change, found, last, left, plain, way

BOTH = [way(AT_WORST), way(ON_THE_AVERAGE)]
CHAIN_OF_4 = [plain(), plain(0), plain(1), plain(2)]


class Done(unittest.TestCase):
    def test_no_changes(self):
        self.assertEqual(ask(*BOTH), [[0, 0], [0, 0]])

    def test_one_left(self):
        self.assertEqual(ask(plain(), *BOTH)[1:], [[0, 0], [0, 0]])
        self.assertEqual(ask(*CHAIN_OF_4, found(0, 1), *BOTH)[5:], [[0, 0], [0, 0]])

    def test_several_left_that_nothing_tells_apart(self):
        self.assertEqual(ask(change(tried=0), change(tried=0), *BOTH)[2:], [[0, 0], [0, 0]])
        self.assertEqual(ask(change(tried=0), plain(0), *BOTH)[2:], [[0, 0], [0, 0]])

    def test_after_begins(self):
        self.assertEqual(ask(*CHAIN_OF_4, begins(), *BOTH)[5:], [[0, 0], [0, 0]])


class AtWorst(unittest.TestCase):
    def numbers(self, *calls):
        return last(*calls, way(AT_WORST))

    def test_two_changes(self):
        self.assertEqual(self.numbers(change(5), change(9, parents=[0])), [5, 1, 0, 0])
        self.assertEqual(self.numbers(change(5), change(4)), [4, 2, 0, 0])

    def test_first_if_its_good_then_if_its_bad(self):
        # Of three apart, 0 first: if it's good, 1; if it's bad, it's done.
        self.assertEqual(self.numbers(plain(), plain(), plain()), [2, 1, 2, 0, 0, 0])
        # 2 first: if it's good, 3 tells 0 and 3 apart; if it's bad, nothing tells 1 and 2 apart.
        told = [change(9), change(tried=0), plain(1), plain(2)]
        self.assertEqual(self.numbers(*told), [2, 3, 4, 0, 0, 0])

    def test_a_chain(self):
        self.assertEqual(self.numbers(*CHAIN_OF_4), [2, 2, 3, 0, 0, 1, 0, 0])

    def test_a_chain_of_7(self):
        told = [plain(*([c - 1] if c else [])) for c in range(7)]
        behind_good = [5, 6, 0, 0, 4, 0, 0]
        behind_bad = [1, 2, 0, 0, 0]
        self.assertEqual(self.numbers(*told), [3, 3] + behind_good + behind_bad)

    def test_behind_an_answer_the_best_way_too_though_a_dearer_one_costs_no_more_at_worst(self):
        # 3 first: if it's bad, 2 for 10. So if it's good, 0 for 3 would cost no more at worst; 1 is the best for 2.
        told = [change(3), change(2), change(10), change(1, parents=[2])]
        self.assertEqual(self.numbers(*told), [11, 4, 2, 0, 0, 3, 0, 0])

    def test_behind_an_answer_the_lowest(self):
        told = [change(2), change(2), change(10), change(1, parents=[2])]
        self.assertEqual(self.numbers(*told), [11, 4, 1, 0, 0, 3, 0, 0])

    def test_done_where_several_are_left_that_nothing_tells_apart(self):
        told = [change(tried=0), change(tried=0, parents=[0]), change(7, parents=[1]), change(3)]
        # Of 2 it's told that it's bad for 0, 1 and 2; of 3 likewise the other way round, for less.
        self.assertEqual(self.numbers(*told), [3, 4, 0, 0])

    def test_after_a_find(self):
        self.assertEqual(self.numbers(*CHAIN_OF_4, found(1, 1)), [1, 1, 0, 0])
        self.assertEqual(self.numbers(*CHAIN_OF_4, found(1, 0)), [1, 3, 0, 0])
        self.assertEqual(self.numbers(*CHAIN_OF_4, found(0, 0)), [2, 2, 3, 0, 0, 0])

    def test_one_that_isnt_left_may_be_tried(self):
        told = [change(tried=0), change(tried=0), change(6, 1, 1, [0]), plain(0, 1)]
        self.assertEqual(self.numbers(*told, found(3, 1)), [6, 3, 0, 0])


class OnTheAverage(unittest.TestCase):
    def numbers(self, *calls):
        return last(*calls, way(ON_THE_AVERAGE))

    def test_two_changes(self):
        self.assertEqual(self.numbers(change(5, 2), change(9, 4, parents=[0])), [30, 1, 0, 0])

    def test_the_likely_ones_first(self):
        told = [change(1, 100), change(1, 1, 1, [0]), change(1, 1, 1, [1]), change(1, 1, 1, [2])]
        self.assertEqual(self.numbers(*told), [108, 1, 2, 3, 0, 0, 0, 0])
        told = [change(1, 1), change(1, 3), change(1, 2), change(1, 9)]
        self.assertEqual(self.numbers(*told), [15 + 6 + 3, 4, 2, 1, 0, 0, 0, 0])

    def test_first_if_its_good_then_if_its_bad(self):
        # 3 first: if it's good, 0 is the one; if it's bad, 2 tells 3 from 1 and 2.
        told = [change(9, 5), change(1, 0, 0), change(1, 0, 1, [1]), change(1, 0, 1, [2])]
        self.assertEqual(self.numbers(*told), [5, 4, 0, 3, 0, 0])

    def test_behind_an_answer_with_all_weights_0_the_lowest_that_tells_something(self):
        told = [change(9, 0), change(1, 0, 1, [0]), change(1, 0, 1, [1]), change(1, 5, 1, [2])]
        self.assertEqual(self.numbers(*told), [5, 3, 0, 1, 2, 0, 0, 0])

    def test_all_weights_0(self):
        told = [change(10000, 0), change(1, 0), change(1, 0)]
        self.assertEqual(self.numbers(*told), [0, 1, 2, 0, 0, 0])
        told = [change(1, 0, 0), change(1, 0, 1, [0]), change(10000, 0), change(1, 0, 1, [1, 2])]
        self.assertEqual(self.numbers(*told), [0, 2, 3, 0, 0, 0])

    def test_the_sum_isnt_divided(self):
        self.assertEqual(self.numbers(change(1, 10000), change(1, 10000)), [20000, 1, 0, 0])


class Refused(unittest.TestCase):
    def test_kinds_that_there_arent(self):
        for kind in (2, 3, LARGEST):
            self.assertEqual(last(way(kind)), [-1])
            self.assertEqual(last(plain(), way(kind)), [-1])
            self.assertEqual(last(*CHAIN_OF_4, found(1, 1), way(kind)), [-1])

    def test_all_is_as_it_was(self):
        answered = ask(plain(), plain(0), way(2), plain(1), left(), way(LARGEST), way(0))
        self.assertEqual(answered, [[0], [1], [-1], [2], [3, 0, 1, 2, 3], [-1], [2, 1, 2, 0, 0, 0]])


class ChangesNothing(unittest.TestCase):
    def test_more_may_be_told_afterwards(self):
        answered = ask(plain(), plain(0), *BOTH, plain(1), *BOTH, left())
        self.assertEqual(answered[2:4], [[1, 1, 0, 0], [2, 1, 0, 0]])
        self.assertEqual(answered[4:], [[2], [2, 1, 2, 0, 0, 0], [5, 1, 2, 0, 0, 0], [3, 0, 1, 2, 3]])
