"""got, lost, left, ranks, most and needed (point 2)."""

import unittest

from tests.lines import (
    GOT, LEFT, LOST, MOST, NEEDED, PROBE, RANKS, SUMS, StoreCase, ahead, ask, lay, plus, told, wanted,
)


class Got(StoreCase):
    def test_each_takes_the_first_that_is_there(self):
        self.assert_asked([1, 1, 1], [[0, 1], [0, 1], [0, 1], [2]], GOT, [3, 1, 2, 0, 3])

    def test_no_pieces(self):
        self.assert_asked([0, 0], [[0], [1, 0]], GOT, [0, 0, 0])

    def test_nobody(self):
        self.assert_asked([4, 2], [], GOT, [0])

    def test_a_list_of_one(self):
        self.assert_asked([0, 2], [[1], [0], [1], [1]], GOT, [2, 2, 0, 2, 0])

    def test_two_who_want_the_same_one_piece(self):
        self.assert_asked([1], [[0], [0]], GOT, [1, 1, 0])
        self.assert_asked([1, 1], [[0, 1], [0, 1]], GOT, [2, 1, 2])

    def test_the_list_counts_and_not_the_number_of_the_good(self):
        self.assert_asked([9, 9, 9], [[2, 0, 1], [1, 2, 0]], GOT, [2, 3, 2])

    def test_the_last_of_a_long_list(self):
        self.assert_asked([0, 0, 0, 0, 1], [[0, 1, 2, 3, 4], [3, 2, 1, 0]], GOT, [1, 5, 0])

    def test_nothing_is_served_by_asking(self):
        self.assertEqual(ask([1], [[0]], GOT, GOT, LEFT, GOT), [[1, 1], [1, 1], [0, 0], [1, 1]])


class Lost(StoreCase):
    def test_those_who_get_nothing_rising(self):
        self.assert_asked([1, 0, 1], [[1], [0], [0, 1], [2], [2, 0]], LOST, [3, 0, 2, 4])

    def test_no_pieces(self):
        self.assert_asked([0, 0], [[0], [1], [0, 1]], LOST, [3, 0, 1, 2])

    def test_nobody(self):
        self.assert_asked([0], [], LOST, [0])

    def test_all_served(self):
        self.assert_asked([2], [[0], [0]], LOST, [0])

    def test_two_who_want_the_same_one_piece(self):
        self.assert_asked([1], [[0], [0]], LOST, [1, 1])


class Left(StoreCase):
    def test_what_nobody_takes(self):
        self.assert_asked([3, 1, 2], [[0], [1], [1, 0]], LEFT, [3, 1, 0, 2])

    def test_no_pieces(self):
        self.assert_asked([0, 0], [[0], [1]], LEFT, [0, 0, 0])

    def test_nobody(self):
        self.assert_asked([100] * 5, [], LEFT, [500] + [100] * 5)

    def test_two_who_want_the_same_one_piece(self):
        self.assert_asked([1, 1], [[0], [0]], LEFT, [1, 0, 1])


class Ranks(StoreCase):
    def test_all_together_then_each(self):
        self.assert_asked([1, 1, 1], [[0, 1], [0, 1], [0, 1], [2]], RANKS, [3, 0, 1, 2, 0])

    def test_the_place_in_the_list_and_not_the_number_of_the_good(self):
        self.assert_asked([9, 0, 9], [[2, 0, 1], [1, 2, 0]], RANKS, [1, 0, 1])

    def test_nothing_is_as_far_down_as_the_list_has_goods(self):
        lists = [[0], [1, 0], [2, 1, 0], [3, 2, 1, 0], [4, 3, 2, 1, 0]]
        self.assert_asked([0] * 5, lists, RANKS, [15, 1, 2, 3, 4, 5])

    def test_the_last_of_a_long_list(self):
        self.assert_asked([0, 0, 0, 0, 1], [[0, 1, 2, 3, 4]], RANKS, [4, 4])

    def test_no_pieces(self):
        self.assert_asked([0, 0], [[0], [1, 0]], RANKS, [3, 1, 2])

    def test_nobody(self):
        self.assert_asked([4, 2], [], RANKS, [0])

    def test_a_list_of_one(self):
        self.assert_asked([0, 1], [[1], [0], [1]], RANKS, [2, 0, 1, 1])

    def test_two_who_want_the_same_one_piece(self):
        self.assert_asked([1], [[0], [0]], RANKS, [1, 0, 1])
        self.assert_asked([1, 1], [[0, 1], [0, 1]], RANKS, [1, 0, 1])


class Most(StoreCase):
    def test_one_more_than_served(self):
        self.assert_asked([1, 1], [[0, 1], [0]], MOST, [2, 1])

    def test_as_many_as_served(self):
        self.assert_asked([1, 1], [[0], [0, 1]], MOST, [2, 2])

    def test_no_pieces(self):
        self.assert_asked([0, 0], [[0, 1], [0]], MOST, [0, 0])

    def test_nobody(self):
        self.assert_asked([5], [], MOST, [0, 0])

    def test_two_who_want_the_same_one_piece(self):
        self.assert_asked([1], [[0], [0]], MOST, [1, 1])

    def test_nobody_gets_two(self):
        self.assert_asked([100, 100], [[0, 1]], MOST, [1, 1])

    def test_half_as_many_as_at_most(self):
        self.assert_asked([3, 3], [[0, 1]] * 3 + [[0]] * 3, MOST, [6, 3])

    def test_moving_on_through_all_the_goods(self):
        lists = [[0, 1], [1, 2], [2, 3], [3, 4], [0]]
        self.assert_asked([1] * 5, lists, MOST, [5, 4])

    def test_moving_on_where_only_the_second_holder_can(self):
        self.assert_asked([2, 1], [[0], [0, 1], [0]], MOST, [3, 2])


class Needed(StoreCase):
    def test_goods_of_which_every_piece_is_taken(self):
        self.assert_asked([1, 1], [[0], [1]], NEEDED, [2, 0, 1])
        self.assert_asked([0, 2, 0, 1], [[1], [3], [1]], NEEDED, [2, 1, 3])

    def test_a_piece_that_would_be_left(self):
        self.assert_asked([2, 1], [[0], [1]], NEEDED, [1, 1])
        self.assert_asked([100, 100], [[0], [1]], NEEDED, [0])

    def test_a_piece_for_which_another_good_stands(self):
        self.assert_asked([1, 1, 1], [[0, 1], [2]], NEEDED, [1, 2])

    def test_a_piece_for_which_all_move_down(self):
        self.assert_asked([1, 1, 1], [[0, 1], [1, 2]], NEEDED, [0])

    def test_a_piece_that_somebody_behind_would_lack(self):
        self.assert_asked([1, 1], [[0, 1], [1]], NEEDED, [2, 0, 1])

    def test_a_piece_that_is_taken_though_as_many_are_served_without(self):
        self.assert_asked([1, 1], [[0, 1], [0]], NEEDED, [0])

    def test_no_pieces(self):
        self.assert_asked([0, 0], [[0], [1, 0]], NEEDED, [0])

    def test_nobody(self):
        self.assert_asked([1, 3], [], NEEDED, [0])

    def test_a_list_of_one(self):
        self.assert_asked([0, 1], [[1]], NEEDED, [1, 1])

    def test_two_who_want_the_same_one_piece(self):
        self.assert_asked([1], [[0], [0]], NEEDED, [1, 0])

    def test_a_person_whose_list_stands_in_nobodys_way(self):
        self.assert_asked([1, 1, 1], [[2], [0, 1]], NEEDED, [1, 2])


class AskingChangesNothing(StoreCase):
    def test_all_questions_twice(self):
        questions = [
            GOT, LOST, LEFT, RANKS, MOST, NEEDED, plus(0), plus(2), told(1, 2), told(4, 0, 1), ahead(0), ahead(3),
            lay(0), lay(3), lay(8), wanted(0), wanted(2), SUMS, *PROBE,
        ]
        answered = ask([2, 1, 1], [[0, 1], [0], [1, 0], [0, 1, 2], [2, 1]], *questions, *questions)
        self.assertEqual(answered[:len(questions)], answered[len(questions):])

    def test_each_question_leaves_the_store_as_it_was(self):
        pieces, lists = [2, 1, 0], [[0, 1], [0], [1, 0], [0, 1, 2], [2, 1]]
        untouched = ask(pieces, lists, *PROBE)
        for call in (RANKS, NEEDED, ahead(4), lay(8), wanted(1), SUMS, plus(2), told(0, 2)):
            self.assertEqual(ask(pieces, lists, call, *PROBE)[1:], untouched, call)


if __name__ == "__main__":
    unittest.main()
