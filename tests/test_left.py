import unittest

from tests.helper import ask, change, found, last, left, plain

WEIGHED = [
    change(weight=1),
    change(weight=10, parents=[0]),
    change(weight=100, parents=[0], tried=0),
    change(weight=1000, parents=[1, 2]),
    change(weight=10000),
]


class Left(unittest.TestCase):
    def test_no_changes(self):
        self.assertEqual(last(left()), [0, 0])

    def test_nothing_found(self):
        self.assertEqual(last(*WEIGHED, left()), [5, 0, 1, 2, 3, 4, 11111])

    def test_between_changes(self):
        answered = ask(WEIGHED[0], left(), WEIGHED[1], left())
        self.assertEqual(answered, [[0], [1, 0, 1], [1], [2, 0, 1, 11]])

    def test_weights_of_those_left_alone(self):
        self.assertEqual(last(*WEIGHED, found(1, 1), left()), [2, 0, 1, 11])
        self.assertEqual(last(*WEIGHED, found(1, 0), left()), [3, 2, 3, 4, 11100])

    def test_several_finds(self):
        answered = ask(*WEIGHED, found(4, 0), left(), found(0, 0), left(), found(1, 0), left(), found(3, 1), left())
        self.assertEqual(answered[6], [4, 0, 1, 2, 3, 1111])
        self.assertEqual(answered[8], [3, 1, 2, 3, 1110])
        self.assertEqual(answered[10], [2, 2, 3, 1100])
        self.assertEqual(answered[12], [2, 2, 3, 1100])

    def test_weights_of_nothing(self):
        self.assertEqual(last(change(weight=0), change(weight=0), left()), [2, 0, 1, 0])

    def test_the_largest_weights_together(self):
        self.assertEqual(last(*[change(weight=10000)] * 7, left()), [7, 0, 1, 2, 3, 4, 5, 6, 70000])

    def test_twice_changes_nothing(self):
        self.assertEqual(ask(plain(), left(), left(), plain(0)), [[0], [1, 0, 1], [1, 0, 1], [1]])
