"""plus, told and ahead (point 3)."""

import unittest

from tests.lines import (
    GOT, LARGEST, LEFT, NONE_SUCH, OUT_OF_RANGE, SIX_LISTS, WRONG_LISTS, StoreCase, ahead, ask, plus, told,
)


class Plus(StoreCase):
    def test_one_more_is_served(self):
        self.assert_asked([1, 0], [[0], [0]], plus(0), [1, 1])

    def test_a_piece_more_that_nobody_wants(self):
        self.assert_asked([1, 0], [[0], [0]], plus(1), [0])

    def test_a_piece_more_where_all_have_the_best(self):
        self.assert_asked([2, 2], [[0, 1], [1, 0]], plus(0), [0])

    def test_a_piece_more_that_all_move_up_by(self):
        lists = [[0, 1], [1, 2], [2, 3], [3, 4], [4]]
        self.assertEqual(ask([0, 1, 1, 1, 1], lists, GOT, plus(0)), [[4, 2, 3, 4, 5, 0], [1, 0, 1, 2, 3, 4]])

    def test_others_move_up_though_no_more_are_served(self):
        self.assert_asked([0, 1, 1], [[0, 1], [1, 2]], plus(0), [0, 0, 1])

    def test_only_those_are_told_whose_good_is_another(self):
        self.assert_asked([0, 1, 9], [[2], [0, 1], [2], [1]], plus(0), [1, 1, 3])

    def test_no_pieces(self):
        self.assert_asked([0, 0], [[1], [0], [0, 1]], plus(0), [1, 1])

    def test_nobody(self):
        self.assert_asked([0, 3], [], plus(1), [0])

    def test_a_list_of_one(self):
        self.assert_asked([0], [[0]], plus(0), [1, 0])

    def test_two_who_want_the_same_one_piece(self):
        self.assert_asked([0], [[0], [0]], plus(0), [1, 0])

    def test_one_more_than_a_hundred(self):
        self.assert_asked([100], [[0]], plus(0), [0])

    def test_the_piece_more_is_not_kept(self):
        self.assertEqual(ask([0], [[0]], plus(0), LEFT, GOT), [[1, 0], [0, 0], [0, 0]])

    def test_no_such_good(self):
        for good in (2, 3, 5, LARGEST):
            self.assert_refused([1, 1], [[0], [0, 1]], plus(good), NONE_SUCH)


class Told(StoreCase):
    def test_what_they_would_get_then_what_they_get(self):
        self.assert_asked([1, 1, 1], [[0], [0, 1], [2]], told(1, 2, 0), [3, 2])

    def test_those_behind_are_served_later(self):
        self.assert_asked([1, 1], [[0], [1]], told(0, 1), [2, 1])

    def test_those_ahead_are_served_first(self):
        self.assert_asked([1, 1], [[0], [1]], told(1, 0, 1), [2, 2])
        self.assert_asked([1, 1], [[0], [1]], told(1, 0), [0, 2])

    def test_something_instead_of_nothing(self):
        self.assert_asked([1, 1], [[0], [0]], told(1, 0, 1), [2, 0])

    def test_a_list_that_stands_in_nobodys_way(self):
        self.assertEqual(ask([1, 1, 1], [[0], [2], [0, 1]], told(1, 2), GOT), [[3, 3], [3, 1, 3, 2]])

    def test_no_pieces(self):
        self.assert_asked([0, 0], [[0]], told(0, 1, 0), [0, 0])

    def test_a_list_of_one_and_of_five(self):
        self.assert_asked([0, 0, 0, 0, 1], [[0]], told(0, 4), [5, 0])
        self.assert_asked([0, 0, 0, 0, 1], [[0]], told(0, 0, 1, 2, 3, 4), [5, 0])

    def test_with_six_people_too(self):
        self.assert_asked([9, 9, 9], SIX_LISTS, told(5, 0), [1, 3])

    def test_the_list_is_not_kept(self):
        self.assertEqual(ask([1, 1], [[0]], told(0, 1), GOT, told(0, 0)), [[2, 1], [1, 1], [1, 1]])

    def test_no_such_person(self):
        for number in (2, 3, 6, LARGEST):
            self.assert_refused([1, 1, 1], [[0], [1, 0]], told(number, 0), NONE_SUCH)
        self.assert_refused([1, 1, 1], [], told(0, 0), NONE_SUCH)

    def test_a_list_that_is_not_as_told(self):
        for goods in WRONG_LISTS:
            self.assert_refused([1, 1, 1], [[0, 1], [2]], told(1, *goods), OUT_OF_RANGE)

    def test_no_such_person_is_told_ahead_of_a_wrong_list(self):
        for goods in WRONG_LISTS:
            self.assert_refused([1, 1, 1], [[0, 1], [2]], told(2, *goods), NONE_SUCH)


class Ahead(StoreCase):
    def test_more_would_be_served_then(self):
        self.assert_asked([1, 1], [[0, 1], [0]], ahead(1), [1, 0, 2])

    def test_fewer_would_be_served_then(self):
        self.assert_asked([1, 1], [[0], [0, 1]], ahead(1), [1, 2, 1])

    def test_all_others_come_as_they_do(self):
        self.assert_asked([1, 1, 1], [[0, 1], [0], [2]], ahead(2), [3, 3, 2])
        self.assert_asked([1, 1, 1], [[2], [0, 1], [0], [2, 1]], ahead(3), [3, 2, 2])

    def test_who_comes_first_already(self):
        self.assert_asked([1, 1], [[0, 1], [0]], ahead(0), [1, 1, 1])

    def test_first_of_six(self):
        self.assert_asked([1, 1, 0], SIX_LISTS, ahead(5), [2, 0, 2])

    def test_the_second_of_the_list_where_the_first_is_not_there(self):
        self.assert_asked([0, 1], [[1], [0, 1]], ahead(1), [2, 0, 1])

    def test_no_pieces(self):
        self.assert_asked([0, 0], [[0], [1]], ahead(1), [0, 0, 0])

    def test_a_list_of_one(self):
        self.assert_asked([0, 1], [[1], [1], [0]], ahead(1), [2, 0, 1])
        self.assert_asked([0, 1], [[1], [1], [0]], ahead(2), [0, 0, 1])

    def test_two_who_want_the_same_one_piece(self):
        self.assert_asked([1], [[0], [0]], ahead(0), [1, 1, 1])
        self.assert_asked([1], [[0], [0]], ahead(1), [1, 0, 1])

    def test_a_list_that_stands_in_nobodys_way(self):
        self.assert_asked([1, 1, 1], [[0], [0, 1], [2]], ahead(2), [3, 3, 3])

    def test_the_place_is_not_kept(self):
        self.assertEqual(ask([1, 1], [[0, 1], [0]], ahead(1), GOT, ahead(1)), [[1, 0, 2], [1, 1, 0], [1, 0, 2]])

    def test_no_such_person(self):
        for number in (2, 3, 6, LARGEST):
            self.assert_refused([1, 1], [[0], [1, 0]], ahead(number), NONE_SUCH)
        self.assert_refused([1, 1], [], ahead(0), NONE_SUCH)


if __name__ == "__main__":
    unittest.main()
