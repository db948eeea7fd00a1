"""got, lost, left and most (point 2)."""

import unittest

from tests.lines import GOT, LEFT, LOST, MOST, StoreCase, ask, plus, told


class Got(StoreCase):
    def test_each_takes_the_first_that_is_there(self):
        self.assert_asked([1, 1, 1], [[0, 1], [0, 1], [0, 1], [2]], GOT, [3, 1, 2, 0, 3])

    def test_no_pieces(self):
        self.assert_asked([0, 0], [[0], [1, 0]], GOT, [0, 0, 0])

    def test_nobody(self):
        self.assert_asked([4, 2], [], GOT, [0])

    def test_a_list_of_one(self):
        self.assert_asked([0, 2], [[1], [0], [1], [1]], GOT, [2, 2, 0, 2, 0])

    def test_two_who_want_the_same_one_piece(self):
        self.assert_asked([1], [[0], [0]], GOT, [1, 1, 0])
        self.assert_asked([1, 1], [[0, 1], [0, 1]], GOT, [2, 1, 2])

    def test_the_list_counts_and_not_the_number_of_the_good(self):
        self.assert_asked([9, 9, 9], [[2, 0, 1], [1, 2, 0]], GOT, [2, 3, 2])

    def test_the_last_of_a_long_list(self):
        self.assert_asked([0, 0, 0, 0, 1], [[0, 1, 2, 3, 4], [3, 2, 1, 0]], GOT, [1, 5, 0])

    def test_nothing_is_served_by_asking(self):
        self.assertEqual(ask([1], [[0]], GOT, GOT, LEFT, GOT), [[1, 1], [1, 1], [0, 0], [1, 1]])


class Lost(StoreCase):
    def test_those_who_get_nothing_rising(self):
        self.assert_asked([1, 0, 1], [[1], [0], [0, 1], [2], [2, 0]], LOST, [3, 0, 2, 4])

    def test_no_pieces(self):
        self.assert_asked([0, 0], [[0], [1], [0, 1]], LOST, [3, 0, 1, 2])

    def test_nobody(self):
        self.assert_asked([0], [], LOST, [0])

    def test_all_served(self):
        self.assert_asked([2], [[0], [0]], LOST, [0])

    def test_two_who_want_the_same_one_piece(self):
        self.assert_asked([1], [[0], [0]], LOST, [1, 1])


class Left(StoreCase):
    def test_what_nobody_takes(self):
        self.assert_asked([3, 1, 2], [[0], [1], [1, 0]], LEFT, [3, 1, 0, 2])

    def test_no_pieces(self):
        self.assert_asked([0, 0], [[0], [1]], LEFT, [0, 0, 0])

    def test_nobody(self):
        self.assert_asked([100] * 5, [], LEFT, [500] + [100] * 5)

    def test_two_who_want_the_same_one_piece(self):
        self.assert_asked([1, 1], [[0], [0]], LEFT, [1, 0, 1])


class Most(StoreCase):
    def test_one_more_than_served(self):
        self.assert_asked([1, 1], [[0, 1], [0]], MOST, [2, 1])

    def test_as_many_as_served(self):
        self.assert_asked([1, 1], [[0], [0, 1]], MOST, [2, 2])

    def test_no_pieces(self):
        self.assert_asked([0, 0], [[0, 1], [0]], MOST, [0, 0])

    def test_nobody(self):
        self.assert_asked([5], [], MOST, [0, 0])

    def test_two_who_want_the_same_one_piece(self):
        self.assert_asked([1], [[0], [0]], MOST, [1, 1])

    def test_nobody_gets_two(self):
        self.assert_asked([100, 100], [[0, 1]], MOST, [1, 1])

    def test_half_as_many_as_at_most(self):
        self.assert_asked([3, 3], [[0, 1]] * 3 + [[0]] * 3, MOST, [6, 3])

    def test_moving_on_through_all_the_goods(self):
        lists = [[0, 1], [1, 2], [2, 3], [3, 4], [0]]
        self.assert_asked([1] * 5, lists, MOST, [5, 4])

    def test_moving_on_where_only_the_second_holder_can(self):
        self.assert_asked([2, 1], [[0], [0, 1], [0]], MOST, [3, 2])


class AskingChangesNothing(StoreCase):
    def test_all_questions_twice(self):
        questions = [GOT, LOST, LEFT, MOST, plus(0), plus(2), told(1, 2), told(4, 0, 1)]
        answered = ask([2, 1, 1], [[0, 1], [0], [1, 0], [0, 1, 2], [2, 1]], *questions, *questions)
        self.assertEqual(answered[:len(questions)], answered[len(questions):])


if __name__ == "__main__":
    unittest.main()
