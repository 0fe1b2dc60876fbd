import time
import unittest

from firstbadyard.trying import answers
from tests.helper import LARGEST, begins, best, change, found, half, joined, left, plain, taken_apart, upon, way


class TheListGivenBack(unittest.TestCase):
    def test_number_by_number(self):
        handed_in = [3, 1, 5, 7, 1, 0, 1, 2, 8, 0, 1, 0, 3, 2, 0, 1, 3, 0, 3]
        self.assertEqual(answers(handed_in), [2, 0, 0, 1, 0, 1, 1, 4, 2, 0, 1, 15, 2, 1, 0, 3, 1, 0, 7, 1, 0, 2, 0, 0])

    def test_number_by_number_of_best_way_half_and_upon(self):
        told = [1, 1, 5, 1, 0, 1, 2, 6, 1, 1, 0, 1, 3, 7, 1, 1, 1]
        handed_in = told + [4, 0, 4, 1, 5, 0, 5, 1, 6, 7, 2, 4, 2, 5, 2, 7, 3]
        of_best = [3, 1, 0, 3, 3, 1, 0, 18 + 26]
        of_way = [6, 3, 1, 2, 0, 0, 0, 6, 44, 1, 2, 0, 0, 0]
        of_half = [4, 1, 0, 3, 44]
        of_upon = [4, 3, 0, 1, 2]
        refusals = [1, -1, 1, -1, 1, -2]
        self.assertEqual(answers(handed_in), [1, 0, 1, 1, 1, 2] + of_best + of_way + of_half + of_upon + refusals)

    def test_one_call(self):
        self.assertEqual(answers([0]), [1, 0])
        self.assertEqual(answers([3]), [2, 0, 0])
        self.assertEqual(answers([2, 0, 0]), [1, -2])
        self.assertEqual(answers([1, 1, 0, 0, 0]), [1, 0])
        self.assertEqual(answers([4, 0]), [1, 0])
        self.assertEqual(answers([4, 2]), [1, -1])
        self.assertEqual(answers([5, 1]), [2, 0, 0])
        self.assertEqual(answers([5, LARGEST]), [1, -1])
        self.assertEqual(answers([6]), [1, 0])
        self.assertEqual(answers([7, 0]), [1, -2])

    def test_a_refusal_is_one_number_alone(self):
        handed_in = joined([change(cost=0), plain(0), plain(), found(1, 1), found(0, 0), found(0, 1), plain(), left()])
        self.assertEqual(answers(handed_in), [1, -1, 1, -2, 1, 0, 1, -2, 1, -6, 2, 1, 0, 1, -3, 3, 1, 0, 1])

    def test_the_row_of_a_refused_change_is_passed_over(self):
        refused = change(cost=0, parents=[3, 3, 0, 2, 1, 1, 3, 0, 0, 3])
        self.assertEqual(answers(joined([refused, left()])), [1, -1, 2, 0, 0])

    def test_whole_numbers_alone(self):
        asked = [best(0), best(1), best(2), way(0), way(1), half(), upon(1), found(0, 1), found(1, 1), left(), half()]
        given_back = answers(joined([begins(), plain(), change(tried=0)] + asked))
        self.assertIs(type(given_back), list)
        for number in given_back:
            self.assertIs(type(number), int)


class TheListHandedIn(unittest.TestCase):
    asked = [best(0), best(1), way(0), way(1), half(), upon(2)]
    calls = joined([plain(), change(2, 3, 1, [0, 0]), plain(1)] + asked)
    calls = calls + joined([found(1, 1), plain(9), left(), half(), best(1), begins(), plain(), left(), upon(0), way(0)])

    def test_is_the_same_afterwards(self):
        handed_in = list(self.calls)
        answers(handed_in)
        self.assertEqual(handed_in, self.calls)

    def test_is_not_changed_for_a_while_either(self):
        class Unchanging(list):
            def refuse(self, *given):
                raise AssertionError("what is handed in is changed")

            append = extend = insert = pop = remove = clear = reverse = sort = refuse
            __setitem__ = __delitem__ = __iadd__ = __imul__ = refuse

        self.assertEqual(answers(Unchanging(self.calls)), answers(self.calls))

    def test_twice_gives_the_same(self):
        once = answers(self.calls)
        self.assertEqual(answers(self.calls), once)

    def test_nothing_is_kept(self):
        answers(joined([plain()] * 7 + [found(0, 1)]))
        self.assertEqual(answers([3]), [2, 0, 0])
        self.assertEqual(answers([2, 0, 1]), [1, -2])
        self.assertEqual(answers(joined([plain(), plain(0)])), [1, 0, 1, 1])
        self.assertEqual(answers(joined([best(0), way(0), half(), upon(0)])), [1, 0, 2, 0, 0, 1, 0, 1, -2])

    def test_no_way_is_kept_either(self):
        dear = [change(9, 9), change(8, 8), change(7, 7)]
        cheap = [change(1, 2), change(2, 2, 1, [0]), change(3, 2, 1, [1])]
        asked = [best(0), best(1), way(0), way(1), half()]
        alone = answers(joined(cheap + asked))
        answers(joined(dear + asked))
        self.assertEqual(answers(joined(cheap + asked)), alone)
        behind_one_another = answers(joined(dear + asked[:3] + [begins()] + cheap + asked))
        self.assertEqual(behind_one_another[-len(alone):], alone)

    def test_what_was_given_back_may_be_changed(self):
        once = answers(self.calls)
        kept = list(once)
        once.clear()
        self.assertEqual(answers(self.calls), kept)


class ManyCalls(unittest.TestCase):
    def test_60_calls(self):
        self.assertEqual(answers([0] * 60), [1, 0] * 60)
        self.assertEqual(answers([3] * 60), [2, 0, 0] * 60)

    def test_60_calls_of_900_numbers(self):
        round_of_10 = [begins()] + [change(3, 4, 1, [0] * 10 if n else []) for n in range(8)] + [left()]
        handed_in = joined(round_of_10 * 6)
        self.assertLessEqual(len(handed_in), 900)
        answered = [1, 0] + [number for n in range(7) for number in [1, n]] + [1, -7, 9, 7, 0, 1, 2, 3, 4, 5, 6, 28]
        self.assertEqual(answers(handed_in), answered * 6)

    def test_60_calls_with_8_about_ways_at_the_numbers_edges(self):
        asked = [best(0), best(1), way(0), way(1), half(), best(0), way(1), half()]
        others = [upon(c % 8) for c in range(30)] + [left()] * 15
        for cost in ([1], [10000], [1, 10000]):
            for weight in ([0], [10000], [0, 10000]):
                told = [change(cost[c % len(cost)], weight[c % len(weight)]) for c in range(7)]
                handed_in = joined(told + others + asked)
                begun = time.perf_counter()
                answered = taken_apart(answers(handed_in))
                self.assertLess(time.perf_counter() - begun, 5)
                self.assertEqual(len(answered), 60)
                self.assertEqual(answered[-8], answered[-3])
                self.assertEqual(answered[-5], answered[-2])
                self.assertEqual(answered[-4], answered[-1])
                self.assertEqual(answered[-6][0], answered[-8][2])
                self.assertEqual(answered[-5][0], answered[-7][2])

    def test_900_numbers_with_8_about_ways(self):
        told = [plain()] + [change(10000, 10000, 1, [c] * 10) for c in range(6)]
        refused = [change(0, 0, 0, [LARGEST] * 10)] * 45
        handed_in = joined(told + refused + [half(), way(1), best(1), best(0), way(0), half(), half(), half()])
        self.assertLessEqual(len(handed_in), 900)
        answered = taken_apart(answers(handed_in))
        self.assertEqual(len(answered), 60)
        self.assertEqual(answered[7:52], [[-1]] * 45)
        # 2 first: if it's good, two more; if it's bad, the cheap 0, then 1.
        self.assertEqual(answered[55], [1, 2, 30000])

    def test_60_calls_that_are_refused(self):
        self.assertEqual(answers(joined([change(0, 0, 0, [1] * 10)] * 60)), [1, -1] * 60)
