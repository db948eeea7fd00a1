"""lay, wanted, look, sums and state (point 4)."""

import unittest

from tests.lines import (
    LARGEST, NONE_SUCH, OUT_OF_RANGE, SERVE, SIX_LISTS, STATE, SUMS, StoreCase, ask, begin, drop, lay, look, person,
    put, swap, wanted,
)


class Lay(StoreCase):
    def test_what_each_wants_most(self):
        self.assert_asked([0, 0, 0], [[1, 0], [0, 2], [1]], lay(3), [3, 1, 2, 0])
        self.assert_asked([0, 0, 0], [[2], [0]], lay(2), [2, 1, 0, 1])

    def test_no_more_are_served_than_there_are_pieces(self):
        self.assert_asked([0, 0], [[1], [1], [1]], lay(2), [2, 0, 2])

    def test_laying_in_nothing(self):
        self.assert_asked([3, 4], [[0], [1]], lay(0), [0, 0, 0])
        self.assert_asked([3], [], lay(0), [0, 0])
        self.assert_asked([1] * 5, [[4, 3, 2, 1, 0]] * 6, lay(0), [0] * 6)

    def test_nobody(self):
        self.assert_asked([0, 0, 0], [], lay(8), [0, 0, 0, 8])
        self.assert_asked([5], [], lay(2), [0, 2])

    def test_one_good(self):
        self.assert_asked([0], [[0], [0]], lay(1), [1, 1])
        self.assert_asked([0], [[0], [0]], lay(7), [2, 7])

    def test_a_list_of_one(self):
        self.assert_asked([0, 0], [[0]], lay(1), [1, 1, 0])
        self.assert_asked([0, 0], [[0]], lay(3), [1, 1, 2])

    def test_two_who_want_the_same_one_piece(self):
        self.assert_asked([0, 0], [[0], [0]], lay(1), [1, 1, 0])
        self.assert_asked([0, 0], [[0], [0]], lay(2), [2, 2, 0])

    def test_of_alike_ones_that_with_which_all_are_served_less_far_down(self):
        self.assert_asked([0, 0], [[0, 1], [0, 1]], lay(1), [1, 1, 0])
        self.assert_asked([0, 0], [[0, 1], [0, 1], [1]], lay(2), [2, 2, 0])

    def test_who_gets_nothing_is_as_far_down_as_their_list_is_long(self):
        self.assert_asked([0, 0, 0], [[1], [0, 2]], lay(1), [1, 1, 0, 0])
        self.assert_asked([0, 0, 0], [[0, 2], [1]], lay(1), [1, 1, 0, 0])
        self.assert_asked([0, 0, 0], [[0, 1, 2], [1], [2, 0]], lay(2), [2, 1, 0, 1])

    def test_of_alike_ones_the_lesser_at_the_first_good_that_differs(self):
        self.assert_asked([0, 0], [[0], [1]], lay(1), [1, 0, 1])
        self.assert_asked([0, 0, 0], [[0], [1], [2]], lay(1), [1, 0, 0, 1])
        self.assert_asked([0, 0, 0], [[0], [1], [2]], lay(2), [2, 0, 1, 1])
        self.assert_asked([0, 0, 0], [[2], [1], [0]], lay(2), [2, 0, 1, 1])
        self.assert_asked([0, 0, 0], [[0], [0], [1]], lay(2), [2, 1, 1, 0])

    def test_alike_though_not_all_have_the_first_of_their_list(self):
        # With 0, 2, 0 the last is served one down and the second not; with 1, 1, 0 it's the last who isn't: 3 each.
        self.assert_asked([0, 0, 0], [[1, 2], [0, 2], [2, 1, 0]], lay(2), [2, 0, 2, 0])

    def test_pieces_beyond_need_are_of_the_last_good(self):
        self.assert_asked([0, 0, 0], [[0], [0]], lay(5), [2, 2, 0, 3])
        self.assert_asked([0, 0, 0], [[2], [1]], lay(8), [2, 0, 1, 7])

    def test_instead_of_what_is_there(self):
        for pieces in ([0, 0], [1, 0], [0, 1], [100, 100]):
            self.assertEqual(ask(pieces, [[0, 1], [1]], lay(2), STATE), [[2, 1, 1], [2, 2] + pieces])

    def test_eight_for_six_people_and_five_goods(self):
        lists = [[0, 1, 2, 3, 4], [1, 2, 3, 4, 0], [2, 3, 4, 0, 1], [3, 4, 0, 1, 2], [3, 0], [0]]
        self.assert_asked([0] * 5, lists, lay(8), [6, 2, 1, 1, 2, 2])

    def test_more_than_eight_are_out_of_range(self):
        for count in (9, 10, 100, LARGEST):
            self.assert_refused([1, 2, 0], SIX_LISTS, lay(count), OUT_OF_RANGE)
            self.assert_refused([1], [], lay(count), OUT_OF_RANGE)


class Wanted(StoreCase):
    LISTS = [[0, 1], [1], [1, 0, 2], [3], [2, 0, 1]]

    def test_for_how_many_it_is_first_and_on_how_many_lists(self):
        for good, expected in enumerate(([1, 3], [2, 4], [1, 2], [1, 1], [0, 0])):
            self.assert_asked([0] * 5, self.LISTS, wanted(good), expected)

    def test_pieces_do_not_count(self):
        self.assert_asked([0, 9, 1, 0, 100], self.LISTS, wanted(0), [1, 3])

    def test_on_lists_but_first_for_nobody(self):
        self.assert_asked([1, 1], [[0, 1], [0, 1]], wanted(1), [0, 2])

    def test_a_list_of_one(self):
        self.assert_asked([1, 1], [[1]], wanted(1), [1, 1])
        self.assert_asked([1, 1], [[1]], wanted(0), [0, 0])

    def test_nobody(self):
        self.assert_asked([7], [], wanted(0), [0, 0])

    def test_two_who_want_the_same_one_piece(self):
        self.assert_asked([1], [[0], [0]], wanted(0), [2, 2])

    def test_no_such_good(self):
        for good in (2, 3, 5, LARGEST):
            self.assert_refused([1, 1], [[0], [1, 0]], wanted(good), NONE_SUCH)


class Look(StoreCase):
    def test_the_goods_in_their_order(self):
        lists = [[2, 0, 1], [1], [4, 3, 2, 1, 0], [0, 4]]
        answered = ask([0] * 5, lists, *[look(number) for number in range(4)])
        self.assertEqual(answered, [[3, 2, 0, 1], [1, 1], [5, 4, 3, 2, 1, 0], [2, 0, 4]])

    def test_pieces_do_not_count(self):
        self.assert_asked([9, 0, 1], [[1, 0, 2]], look(0), [3, 1, 0, 2])

    def test_behind_a_drop_and_a_swap(self):
        answered = ask([0, 0], [[0], [1], [1, 0]], drop(0), look(0), swap(0, 1), look(0), look(1), look(2))
        self.assertEqual(answered, [[2], [1, 1], [0, 0], [2, 1, 0], [1, 1], [NONE_SUCH]])

    def test_no_such_person(self):
        for number in (2, 3, 6, LARGEST):
            self.assert_refused([1, 1], [[0], [1, 0]], look(number), NONE_SUCH)
        self.assert_refused([1, 1], [], look(0), NONE_SUCH)


class Sums(StoreCase):
    def test_pieces_people_and_served(self):
        self.assert_asked([4, 1, 2], [[0], [1], [1], [1, 2]], SUMS, [0, 7, 4, 3])

    def test_served_as_they_come_and_not_at_most(self):
        self.assert_asked([1, 1], [[0, 1], [0]], SUMS, [0, 2, 2, 1])

    def test_no_pieces(self):
        self.assert_asked([0, 0], [[0], [1]], SUMS, [0, 0, 2, 0])

    def test_nobody(self):
        self.assert_asked([100] * 5, [], SUMS, [0, 500, 0, 0])

    def test_two_who_want_the_same_one_piece(self):
        self.assert_asked([1], [[0], [0]], SUMS, [0, 1, 2, 1])


class State(StoreCase):
    def test_goods_people_and_pieces(self):
        self.assert_asked([4, 0, 100], SIX_LISTS, STATE, [3, 6, 4, 0, 100])

    def test_new(self):
        for goods in range(1, 6):
            self.assert_asked([0] * goods, [], STATE, [goods, 0] + [0] * goods)

    def test_as_the_store_changes(self):
        calls = [put(0, 5), person(0), person(1, 0), STATE, drop(1), STATE, SERVE, STATE, begin(1), STATE]
        self.assertEqual(ask([0, 2], [], *calls), [
            [0], [0], [1], [2, 2, 5, 2], [1], [2, 1, 5, 2], [1, 1], [2, 0, 4, 2], [0], [1, 0, 0],
        ])


if __name__ == "__main__":
    unittest.main()
