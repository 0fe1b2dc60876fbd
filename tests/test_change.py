import unittest

from tests.helper import LARGEST, ask, change, found, last, left, plain

NOT_IN_RANGE = [
    {"cost": 0},
    {"cost": 10001},
    {"cost": LARGEST},
    {"weight": 10001},
    {"weight": LARGEST},
    {"tried": 2},
    {"tried": LARGEST},
]


def made_upon(changes, c):
    """While nothing has been found, those left if c is bad are those that c is made upon."""
    count, *those = last(*changes, found(c, 1))
    if count != len(those):
        raise AssertionError(f"{count} told, {those} answered")
    return those


class Numbers(unittest.TestCase):
    def test_rise_from_0(self):
        self.assertEqual(ask(plain(), plain(0), plain(), plain(1, 2)), [[0], [1], [2], [3]])

    def test_the_seventh_is_taken_and_the_eighth_refused(self):
        self.assertEqual(ask(*[plain()] * 9), [[n] for n in range(7)] + [[-7], [-7]])

    def test_all_7_are_left(self):
        self.assertEqual(last(*[plain()] * 8, left()), [7, 0, 1, 2, 3, 4, 5, 6, 7])


class MadeUpon(unittest.TestCase):
    def test_itself_alone_with_no_parent(self):
        self.assertEqual(made_upon([plain(), plain(), plain()], 0), [0])
        self.assertEqual(made_upon([plain(), plain(), plain()], 1), [1])
        self.assertEqual(made_upon([plain(), plain(), plain()], 2), [2])

    def test_one_parent(self):
        self.assertEqual(made_upon([plain(), plain(), plain(0)], 2), [0, 2])
        self.assertEqual(made_upon([plain(), plain(), plain(1)], 2), [1, 2])

    def test_several_parents(self):
        self.assertEqual(made_upon([plain()] * 4 + [plain(3, 0, 2)], 4), [0, 2, 3, 4])

    def test_a_parent_is_not_made_upon_its_child(self):
        self.assertEqual(made_upon([plain(), plain(0)], 0), [0])

    def test_a_parent_told_twice_is_told_once(self):
        self.assertEqual(made_upon([plain(), plain(), plain(1, 1)], 2), [1, 2])
        self.assertEqual(made_upon([plain(), plain(), plain(1, 0, 1)], 2), [0, 1, 2])

    def test_10_parents_told(self):
        parents = [5, 3, 5, 0, 3, 0, 5, 5, 3, 0]
        self.assertEqual(made_upon([plain()] * 6 + [plain(*parents)], 6), [0, 3, 5, 6])
        self.assertEqual(made_upon([plain(), plain(*[0] * 10)], 1), [0, 1])
        self.assertEqual(ask(*[plain()] * 6, plain(*parents), left())[6:], [[6], [7, 0, 1, 2, 3, 4, 5, 6, 7]])

    def test_parents_of_parents(self):
        chain = [plain()] + [plain(n) for n in range(6)]
        for c in range(7):
            self.assertEqual(made_upon(chain, c), list(range(c + 1)))

    def test_a_fork(self):
        fork = [plain(), plain(0), plain(0), plain(1), plain(2)]
        self.assertEqual(made_upon(fork, 3), [0, 1, 3])
        self.assertEqual(made_upon(fork, 4), [0, 2, 4])

    def test_forks_that_are_joined_again(self):
        joined = [plain(), plain(0), plain(0), plain(2, 1), plain(), plain(3, 4), plain(1)]
        self.assertEqual(made_upon(joined, 3), [0, 1, 2, 3])
        self.assertEqual(made_upon(joined, 5), [0, 1, 2, 3, 4, 5])
        self.assertEqual(made_upon(joined, 6), [0, 1, 6])

    def test_through_one_that_cannot_be_tried(self):
        self.assertEqual(made_upon([plain(), change(tried=0, parents=[0]), plain(1)], 2), [0, 1, 2])


class Ranges(unittest.TestCase):
    def test_at_their_edges_within(self):
        for told in [{"cost": 1}, {"cost": 10000}, {"weight": 0}, {"weight": 10000}, {"tried": 0}, {"tried": 1}]:
            with self.subTest(told=told):
                self.assertEqual(ask(change(**told), change(**told)), [[0], [1]])

    def test_the_largest_of_all_together(self):
        self.assertEqual(ask(change(10000, 10000, 1), left()), [[0], [1, 0, 10000]])

    def test_outside(self):
        for told in NOT_IN_RANGE:
            with self.subTest(told=told):
                self.assertEqual(ask(change(**told)), [[-1]])

    def test_cost_is_in_its_range_even_if_it_cannot_be_tried(self):
        self.assertEqual(last(change(cost=0, tried=0)), [-1])
        self.assertEqual(last(change(cost=10001, tried=0)), [-1])
        self.assertEqual(last(change(cost=10000, tried=0)), [0])

    def test_several_outside(self):
        self.assertEqual(last(change(0, 10001, 2)), [-1])
        self.assertEqual(last(change(LARGEST, LARGEST, LARGEST, [LARGEST] * 10)), [-1])


class NoSuchParent(unittest.TestCase):
    def test_with_no_changes(self):
        self.assertEqual(last(plain(0)), [-2])

    def test_itself_and_later_ones(self):
        self.assertEqual(last(plain(), plain(1)), [-2])
        self.assertEqual(last(plain(), plain(2)), [-2])
        self.assertEqual(last(plain(), plain(LARGEST)), [-2])

    def test_beside_one_that_is_there(self):
        self.assertEqual(last(plain(), plain(0, 1)), [-2])
        self.assertEqual(last(plain(), plain(1, 0)), [-2])
        self.assertEqual(last(plain(), plain(*[0] * 9, 1)), [-2])


class SomethingFound(unittest.TestCase):
    def test_refused_behind_a_find(self):
        self.assertEqual(last(plain(), plain(), found(0, 1), plain()), [-3])
        self.assertEqual(last(plain(), plain(), found(0, 0), plain()), [-3])

    def test_refused_behind_a_find_that_tells_nothing(self):
        self.assertEqual(ask(plain(), found(0, 1), plain())[1:], [[1, 0], [-3]])

    def test_taken_behind_finds_that_were_refused(self):
        refused = [change(tried=0), plain(), found(2, 1), found(0, 1)]
        self.assertEqual(ask(*refused, plain(1))[2:], [[-2], [-4], [2]])
        self.assertEqual(ask(plain(), found(0, 0), plain(0))[1:], [[-6], [1]])


class SeveralRefusals(unittest.TestCase):
    full = [plain()] * 7
    full_and_found = [plain()] * 7 + [found(0, 0)]
    one_found = [plain(), found(0, 1)]

    def test_not_in_range_ahead_of_each_other(self):
        for told in NOT_IN_RANGE:
            with self.subTest(told=told):
                self.assertEqual(last(*self.full, change(**told)), [-1])
                self.assertEqual(last(*self.one_found, change(**told)), [-1])
                self.assertEqual(last(plain(), change(parents=[1], **told)), [-1])
                self.assertEqual(last(*self.full_and_found, change(parents=[7], **told)), [-1])

    def test_no_room_ahead_of_something_found(self):
        self.assertEqual(last(*self.full_and_found, plain()), [-7])

    def test_no_room_ahead_of_no_such_parent(self):
        self.assertEqual(last(*self.full, plain(7)), [-7])

    def test_something_found_ahead_of_no_such_parent(self):
        self.assertEqual(last(*self.one_found, plain(1)), [-3])

    def test_all_but_the_range(self):
        self.assertEqual(last(*self.full_and_found, plain(LARGEST)), [-7])


class AllIsAsItWas(unittest.TestCase):
    def test_no_number_is_used_up(self):
        for told in NOT_IN_RANGE + [{"parents": [1]}, {"parents": [0, LARGEST]}]:
            with self.subTest(told=told):
                answered = ask(plain(), change(**told), left(), plain(0), left(), found(1, 1))
                self.assertIn(answered[1], [[-1], [-2]])
                self.assertEqual(answered[2:], [[1, 0, 1], [1], [2, 0, 1, 2], [2, 0, 1]])

    def test_an_eighth_leaves_no_trace(self):
        answered = ask(*[plain()] * 7, change(weight=9, parents=[0]), left(), found(7, 1), found(6, 1))
        self.assertEqual(answered[7:], [[-7], [7, 0, 1, 2, 3, 4, 5, 6, 7], [-2], [1, 6]])

    def test_one_behind_a_find_leaves_no_trace(self):
        answered = ask(plain(), plain(), found(0, 0), change(weight=9), left(), found(2, 1))
        self.assertEqual(answered[2:], [[1, 1], [-3], [1, 1, 1], [-2]])
