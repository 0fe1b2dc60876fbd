import unittest

from tests.helper import ask, begins, change, found, last, left, plain


class Begins(unittest.TestCase):
    def test_answers_0(self):
        self.assertEqual(last(begins()), [0])

    def test_answers_0_behind_changes_and_finds(self):
        self.assertEqual(last(plain(), plain(0), found(1, 1), begins()), [0])

    def test_twice(self):
        self.assertEqual(ask(begins(), begins()), [[0], [0]])

    def test_no_changes_are_there_then(self):
        told = [change(weight=5), change(weight=6, parents=[0]), found(1, 1)]
        self.assertEqual(last(*told, begins(), left()), [0, 0])
        self.assertEqual(last(*told, begins(), found(0, 1)), [-2])
        self.assertEqual(last(*told, begins(), plain(0)), [-2])

    def test_numbers_rise_from_0_again(self):
        self.assertEqual(ask(plain(), plain(), begins(), plain(), plain(0))[3:], [[0], [1]])

    def test_nothing_has_been_found_then(self):
        self.assertEqual(ask(plain(), found(0, 1), plain(), begins(), plain(), plain())[2:], [[-3], [0], [0], [1]])
        self.assertEqual(last(plain(), found(0, 1), begins(), plain(), plain(), left()), [2, 0, 1, 2])

    def test_what_was_made_upon_what_is_forgotten(self):
        self.assertEqual(last(plain(), plain(0), begins(), plain(), plain(), found(1, 1)), [1, 1])

    def test_whether_it_can_be_tried_is_forgotten(self):
        self.assertEqual(last(change(tried=0), begins(), change(tried=1), found(0, 1)), [1, 0])
        self.assertEqual(last(change(tried=1), begins(), change(tried=0), found(0, 1)), [-4])

    def test_there_is_room_for_7_again(self):
        self.assertEqual(ask(*[plain()] * 7, begins(), *[plain()] * 8)[8:], [[n] for n in range(7)] + [[-7]])
