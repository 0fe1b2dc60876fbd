import unittest

from tests.helper import LARGEST, ask, begins, change, found, last, left, plain, upon


class Upon(unittest.TestCase):
    def each(self, *told):
        count = len(told)
        return ask(*told, *[upon(c) for c in range(count)])[count:]

    def test_no_parent(self):
        self.assertEqual(self.each(plain(), plain()), [[1, 0], [1, 1]])

    def test_one_parent(self):
        self.assertEqual(self.each(plain(), plain(), plain(1)), [[1, 0], [1, 1], [2, 1, 2]])

    def test_several_parents(self):
        self.assertEqual(self.each(plain(), plain(), plain(), plain(2, 0))[3], [3, 0, 2, 3])

    def test_parents_of_parents(self):
        told = [plain()] + [plain(c) for c in range(6)]
        self.assertEqual(self.each(*told), [[c + 1] + list(range(c + 1)) for c in range(7)])

    def test_forks_that_are_joined_again(self):
        answered = self.each(plain(), plain(0), plain(0), plain(1, 2), plain(2), plain(4, 3), plain())
        self.assertEqual(answered, [
            [1, 0], [2, 0, 1], [2, 0, 2], [4, 0, 1, 2, 3], [3, 0, 2, 4], [6, 0, 1, 2, 3, 4, 5], [1, 6]])

    def test_rising_whatever_the_parents_order(self):
        told = [plain(), plain(), plain(), plain(), plain(3, 1, 0)]
        self.assertEqual(self.each(*told)[4], [4, 0, 1, 3, 4])
        # 2 comes through 3, behind 1 and 0.
        told = [plain(), plain(), plain(), plain(2), plain(3, 1, 0)]
        self.assertEqual(self.each(*told)[4], [5, 0, 1, 2, 3, 4])

    def test_a_parent_told_twice(self):
        self.assertEqual(self.each(plain(), plain(0, 0), plain(1, 0, 1, 0, 1, 0, 1, 0, 1, 0))[1:], [
            [2, 0, 1], [3, 0, 1, 2]])

    def test_those_that_cant_be_tried_and_have_no_weight(self):
        self.assertEqual(self.each(change(1, 0, 0), change(1, 0, 0, [0]))[1], [2, 0, 1])

    def test_after_finds(self):
        told = [plain(), plain(0), plain(1), plain(2)]
        answered = ask(*told, found(1, 0), upon(3), upon(0), found(2, 1), upon(3), upon(2), upon(1))
        self.assertEqual(answered[5:7], [[4, 0, 1, 2, 3], [1, 0]])
        self.assertEqual(answered[8:], [[4, 0, 1, 2, 3], [3, 0, 1, 2], [2, 0, 1]])

    def test_after_begins(self):
        self.assertEqual(ask(plain(), plain(0), begins(), upon(0), plain(), plain(), upon(1))[3:], [
            [-2], [0], [1], [1, 1]])

    def test_changes_nothing(self):
        answered = ask(plain(), plain(0), upon(1), upon(1), plain(1), upon(2), upon(0), left())
        self.assertEqual(answered[2:], [[2, 0, 1], [2, 0, 1], [2], [3, 0, 1, 2], [1, 0], [3, 0, 1, 2, 3]])


class Refused(unittest.TestCase):
    def test_no_changes(self):
        for c in (0, 1, 6, 7, LARGEST):
            self.assertEqual(last(upon(c)), [-2])

    def test_the_number_that_comes_next(self):
        for count in range(1, 8):
            told = [plain()] * count
            self.assertEqual(ask(*told, upon(count - 1), upon(count))[count:], [[1, count - 1], [-2]])

    def test_the_largest_number(self):
        self.assertEqual(last(plain(), plain(0), upon(LARGEST)), [-2])
        self.assertEqual(last(*[plain()] * 7, upon(LARGEST)), [-2])

    def test_a_change_that_was_refused(self):
        self.assertEqual(ask(plain(), plain(1), upon(1), change(cost=0), upon(1)), [[0], [-2], [-2], [-1], [-2]])

    def test_all_is_as_it_was(self):
        answered = ask(plain(), plain(0), upon(2), plain(1), left(), found(1, 1), upon(3), left())
        self.assertEqual(answered[2:], [[-2], [2], [3, 0, 1, 2, 3], [2, 0, 1], [-2], [2, 0, 1, 2]])
