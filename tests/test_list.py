import unittest

from firstbadyard.trying import answers
from tests.helper import begins, change, found, joined, left, plain


class TheListGivenBack(unittest.TestCase):
    def test_number_by_number(self):
        handed_in = [3, 1, 5, 7, 1, 0, 1, 2, 8, 0, 1, 0, 3, 2, 0, 1, 3, 0, 3]
        self.assertEqual(answers(handed_in), [2, 0, 0, 1, 0, 1, 1, 4, 2, 0, 1, 15, 2, 1, 0, 3, 1, 0, 7, 1, 0, 2, 0, 0])

    def test_one_call(self):
        self.assertEqual(answers([0]), [1, 0])
        self.assertEqual(answers([3]), [2, 0, 0])
        self.assertEqual(answers([2, 0, 0]), [1, -2])
        self.assertEqual(answers([1, 1, 0, 0, 0]), [1, 0])

    def test_a_refusal_is_one_number_alone(self):
        handed_in = joined([change(cost=0), plain(0), plain(), found(1, 1), found(0, 0), found(0, 1), plain(), left()])
        self.assertEqual(answers(handed_in), [1, -1, 1, -2, 1, 0, 1, -2, 1, -6, 2, 1, 0, 1, -3, 3, 1, 0, 1])

    def test_the_row_of_a_refused_change_is_passed_over(self):
        refused = change(cost=0, parents=[3, 3, 0, 2, 1, 1, 3, 0, 0, 3])
        self.assertEqual(answers(joined([refused, left()])), [1, -1, 2, 0, 0])

    def test_whole_numbers_alone(self):
        given_back = answers(joined([begins(), plain(), change(tried=0), found(0, 1), found(1, 1), left()]))
        self.assertIs(type(given_back), list)
        for number in given_back:
            self.assertIs(type(number), int)


class TheListHandedIn(unittest.TestCase):
    calls = joined([plain(), change(2, 3, 1, [0, 0]), plain(1), found(1, 1), plain(9), left(), begins(), plain(), left()])

    def test_is_the_same_afterwards(self):
        handed_in = list(self.calls)
        answers(handed_in)
        self.assertEqual(handed_in, self.calls)

    def test_is_not_changed_for_a_while_either(self):
        class Unchanging(list):
            def refuse(self, *given):
                raise AssertionError("what is handed in is changed")

            append = extend = insert = pop = remove = clear = reverse = sort = refuse
            __setitem__ = __delitem__ = __iadd__ = __imul__ = refuse

        self.assertEqual(answers(Unchanging(self.calls)), answers(self.calls))

    def test_twice_gives_the_same(self):
        once = answers(self.calls)
        self.assertEqual(answers(self.calls), once)

    def test_nothing_is_kept(self):
        answers(joined([plain()] * 7 + [found(0, 1)]))
        self.assertEqual(answers([3]), [2, 0, 0])
        self.assertEqual(answers([2, 0, 1]), [1, -2])
        self.assertEqual(answers(joined([plain(), plain(0)])), [1, 0, 1, 1])

    def test_what_was_given_back_may_be_changed(self):
        once = answers(self.calls)
        kept = list(once)
        once.clear()
        self.assertEqual(answers(self.calls), kept)


class ManyCalls(unittest.TestCase):
    def test_60_calls(self):
        self.assertEqual(answers([0] * 60), [1, 0] * 60)
        self.assertEqual(answers([3] * 60), [2, 0, 0] * 60)

    def test_60_calls_of_900_numbers(self):
        round_of_10 = [begins()] + [change(3, 4, 1, [0] * 10 if n else []) for n in range(8)] + [left()]
        handed_in = joined(round_of_10 * 6)
        self.assertLessEqual(len(handed_in), 900)
        answered = [1, 0] + [number for n in range(7) for number in [1, n]] + [1, -7, 9, 7, 0, 1, 2, 3, 4, 5, 6, 28]
        self.assertEqual(answers(handed_in), answered * 6)

    def test_60_calls_that_are_refused(self):
        self.assertEqual(answers(joined([change(0, 0, 0, [1] * 10)] * 60)), [1, -1] * 60)
