"""begin, put, person, drop, swap and serve (point 1)."""

import unittest

from tests.lines import (
    GOT, LARGEST, LEFT, LOST, MOST, NEEDED, NONE_SUCH, NOT_BEGUN, OUT_OF_RANGE, RANKS, SERVE, SIX_LISTS, STATE, SUMS,
    TOO_MANY, WRONG_LISTS, StoreCase, ahead, answer_line, ask, begin, drop, lay, look, person, plus, put, shop, swap,
    told, wanted,
)


class NotBegun(StoreCase):
    OTHERS = [
        put(0, 1), put(LARGEST, LARGEST), person(0), person(), person(*[LARGEST] * 8), drop(0), drop(LARGEST),
        GOT, LOST, LEFT, MOST, plus(0), plus(LARGEST), told(0, 0), told(LARGEST), told(0, *[0] * 8),
        ahead(0), ahead(LARGEST), lay(0), lay(9), lay(LARGEST), RANKS, swap(0, 1), swap(0, 0), swap(LARGEST, LARGEST),
        NEEDED, wanted(0), wanted(LARGEST), look(0), look(LARGEST), SERVE, SUMS, STATE,
    ]

    def test_all_others_answer_not_begun(self):
        for call in self.OTHERS:
            self.assertEqual(answer_line(call), [[NOT_BEGUN]], call)

    def test_a_refused_begin_does_not_begin(self):
        for call in self.OTHERS:
            self.assertEqual(answer_line(begin(0), call), [[OUT_OF_RANGE], [NOT_BEGUN]], call)
            self.assertEqual(answer_line(begin(6), call), [[OUT_OF_RANGE], [NOT_BEGUN]], call)

    def test_what_is_refused_before_begin_is_not_there_afterwards(self):
        line = [put(0, 3), person(0), begin(1), LEFT, GOT]
        self.assertEqual(answer_line(*line), [[NOT_BEGUN], [NOT_BEGUN], [0], [0, 0], [0]])


class Begin(StoreCase):
    def test_one_to_five_goods(self):
        for count in range(1, 6):
            answered = answer_line(begin(count), LEFT, GOT, put(count - 1, 1), put(count, 1))
            self.assertEqual(answered, [[0], [0] + [0] * count, [0], [0], [NONE_SUCH]])

    def test_other_numbers_of_goods(self):
        for count in (0, 6, 7, 100, LARGEST):
            self.assertEqual(answer_line(begin(count)), [[OUT_OF_RANGE]])
            self.assert_refused([1, 2, 0], SIX_LISTS, begin(count), OUT_OF_RANGE)

    def test_in_the_middle_of_a_line_all_is_new(self):
        answered = ask([2, 1, 4], SIX_LISTS, begin(2), LEFT, GOT, LOST, MOST, drop(0), put(2, 1), person(0), person(2))
        self.assertEqual(answered, [[0], [0, 0, 0], [0], [0], [0, 0], [NONE_SUCH], [NONE_SUCH], [0], [OUT_OF_RANGE]])

    def test_in_the_middle_of_a_line_with_more_goods(self):
        self.assertEqual(ask([1], [[0]], begin(5), put(4, 1), person(4), GOT), [[0], [0], [0], [1, 5]])

    def test_in_the_middle_of_a_line_with_as_many_goods(self):
        self.assertEqual(ask([1, 2], [[0]], begin(2), LEFT, GOT), [[0], [0, 0, 0], [0]])


class Put(StoreCase):
    def test_answers_how_many_there_were(self):
        answered = ask([0, 0], [], put(1, 7), put(1, 3), put(0, 2), put(1, 0), put(1, 0))
        self.assertEqual(answered, [[0], [7], [0], [3], [0]])

    def test_so_many_there_are(self):
        self.assertEqual(ask([5, 6], [], put(1, 2), LEFT), [[6], [7, 5, 2]])

    def test_a_hundred_are_allowed(self):
        self.assertEqual(ask([0], [], put(0, 100), LEFT, put(0, 99)), [[0], [100, 100], [100]])

    def test_more_are_out_of_range(self):
        for count in (101, 102, LARGEST):
            self.assert_refused([1, 100], [[1]], put(1, count), OUT_OF_RANGE)

    def test_no_such_good(self):
        for good in (2, 3, 5, LARGEST):
            self.assert_refused([1, 1], [[0]], put(good, 1), NONE_SUCH)

    def test_no_such_good_is_told_ahead_of_too_many_pieces(self):
        self.assert_refused([1, 1], [[0]], put(2, 101), NONE_SUCH)
        self.assert_refused([1, 1], [[0]], put(LARGEST, LARGEST), NONE_SUCH)


class Person(StoreCase):
    def test_numbers_rise_from_0_to_5(self):
        answered = ask([1, 1, 1], [], *[person(*goods) for goods in SIX_LISTS])
        self.assertEqual(answered, [[0], [1], [2], [3], [4], [5]])

    def test_a_seventh_is_too_many(self):
        self.assert_refused([1, 1, 1], SIX_LISTS, person(0), TOO_MANY)
        self.assert_refused([1, 1, 1], SIX_LISTS, person(2, 1, 0), TOO_MANY)

    def test_five_and_one_is_not_too_many(self):
        self.assert_asked([1, 1, 1], SIX_LISTS[:5], person(0), [5])

    def test_lists_of_one_to_all_five_goods(self):
        answered = ask([0, 0, 0, 0, 1], [], person(4), person(0, 4), person(0, 1, 2, 3, 4), person(4, 3, 2, 1, 0))
        self.assertEqual(answered, [[0], [1], [2], [3]])

    def test_a_list_that_is_not_as_told(self):
        for goods in WRONG_LISTS:
            self.assert_refused([1, 1, 1], [[0, 1], [2]], person(*goods), OUT_OF_RANGE)

    def test_lists_of_more_than_five_are_out_of_range_with_five_goods_too(self):
        for length in (6, 7, 8):
            goods = [place % 5 for place in range(length)]
            self.assert_refused([1] * 5, [[0]], person(*goods), OUT_OF_RANGE)
            self.assert_refused([1] * 5, [[0]], person(*range(length)), OUT_OF_RANGE)

    def test_a_wrong_list_is_told_ahead_of_too_many_people(self):
        for goods in WRONG_LISTS:
            self.assert_refused([1, 1, 1], SIX_LISTS, person(*goods), OUT_OF_RANGE)

    def test_the_one_more_comes_last(self):
        self.assertEqual(ask([1], [[0]], person(0), GOT), [[1], [1, 1, 0]])


class Drop(StoreCase):
    def test_answers_how_many_still_come(self):
        answered = ask([0, 0, 0], SIX_LISTS, *[drop(0)] * 7)
        self.assertEqual(answered, [[5], [4], [3], [2], [1], [0], [NONE_SUCH]])

    def test_those_behind_have_one_number_less(self):
        lists = [[0], [1], [2]]
        self.assertEqual(ask([9, 9, 9], lists, drop(0), GOT), [[2], [2, 2, 3]])
        self.assertEqual(ask([9, 9, 9], lists, drop(1), GOT), [[2], [2, 1, 3]])
        self.assertEqual(ask([9, 9, 9], lists, drop(2), GOT), [[2], [2, 1, 2]])

    def test_pieces_stay(self):
        self.assertEqual(ask([3, 1], [[0]], drop(0), LEFT), [[0], [4, 3, 1]])

    def test_makes_room_for_one_more(self):
        answered = ask([1, 1, 1], SIX_LISTS, person(0), drop(3), person(0), person(0))
        self.assertEqual(answered, [[TOO_MANY], [5], [5], [TOO_MANY]])

    def test_no_such_person(self):
        for number in (2, 3, 6, LARGEST):
            self.assert_refused([1, 1], [[0], [1, 0]], drop(number), NONE_SUCH)
        self.assert_refused([1, 1], [], drop(0), NONE_SUCH)


class Swap(StoreCase):
    def test_how_many_are_served_then_and_how_many_were(self):
        answered = ask([1, 1], [[0, 1], [0]], swap(0, 1), GOT, swap(0, 1), GOT)
        self.assertEqual(answered, [[2, 1], [2, 1, 2], [1, 2], [1, 1, 0]])

    def test_each_comes_in_the_other_ones_place_with_their_own_list(self):
        lists = [[0], [1, 0], [2], [0, 1, 2]]
        for call in (swap(1, 3), swap(3, 1)):
            answered = ask([9, 9, 9], lists, call, *[look(number) for number in range(4)], GOT)
            self.assertEqual(answered, [[4, 4], [1, 0], [3, 0, 1, 2], [1, 2], [2, 1, 0], [4, 1, 1, 3, 2]])

    def test_pieces_stay(self):
        self.assertEqual(ask([3, 1], [[0], [1]], swap(1, 0), STATE), [[2, 2], [2, 2, 3, 1]])

    def test_no_pieces(self):
        self.assertEqual(ask([0, 0], [[0], [1]], swap(0, 1), look(0)), [[0, 0], [1, 1]])

    def test_two_who_want_the_same_one_piece(self):
        self.assertEqual(ask([1], [[0], [0]], swap(0, 1), GOT), [[1, 1], [1, 1, 0]])

    def test_a_person_whose_list_stands_in_nobodys_way(self):
        self.assertEqual(ask([1, 1, 1], [[0], [0, 1], [2]], swap(0, 2), GOT), [[2, 3], [2, 3, 1, 0]])
        self.assertEqual(ask([1, 1, 1], [[2], [0], [0, 1]], swap(0, 1), GOT), [[3, 3], [3, 1, 3, 2]])

    def test_other_calls_behind_it(self):
        calls = [swap(0, 2), drop(0), person(0), swap(2, 0), told(0, 1), ahead(2), LOST, SERVE]
        answered = ask([1, 1, 0], [[0, 1], [1], [2, 0]], *calls)
        self.assertEqual(answered, [[2, 2], [2], [2], [2, 2], [2, 1], [2, 0, 2], [1, 2], [2, 1, 2, 0]])

    def test_no_such_person(self):
        for one, other in ((0, 2), (2, 0), (1, LARGEST), (LARGEST, 1), (2, 3), (6, 7)):
            self.assert_refused([1, 1], [[0, 1], [0]], swap(one, other), NONE_SUCH)
        self.assert_refused([1, 1], [], swap(0, 1), NONE_SUCH)

    def test_the_same_person(self):
        for number in range(6):
            self.assert_refused([1, 0, 1], SIX_LISTS, swap(number, number), OUT_OF_RANGE)
        self.assert_refused([1], [[0]], swap(0, 0), OUT_OF_RANGE)

    def test_no_such_person_is_told_ahead_of_the_same_person(self):
        for number in (2, 6, LARGEST):
            self.assert_refused([1, 1], [[0, 1], [0]], swap(number, number), NONE_SUCH)
        self.assert_refused([1, 1], [], swap(0, 0), NONE_SUCH)


class Serve(StoreCase):
    def test_what_each_gets_is_what_they_would_have_got(self):
        got, served = ask([1, 1, 1], [[0, 1], [0, 1], [0, 1], [2]], GOT, SERVE)
        self.assertEqual(served, [3, 1, 2, 0, 3])
        self.assertEqual(got, served)

    def test_the_pieces_taken_are_gone_and_all_people(self):
        answered = ask([2, 1, 3], [[0], [1, 0], [1, 2], [1]], SERVE, STATE, LEFT, GOT, LOST, drop(0), look(0))
        self.assertEqual(answered, [
            [3, 1, 2, 3, 0], [3, 0, 1, 0, 2], [3, 1, 0, 2], [0], [0], [NONE_SUCH], [NONE_SUCH],
        ])

    def test_others_are_served_from_what_is_left(self):
        answered = ask([2, 1], [[1, 0], [1, 0]], SERVE, person(1, 0), person(0), SERVE, SUMS)
        self.assertEqual(answered, [[2, 2, 1], [0], [1], [1, 1, 0], [0, 0, 0, 0]])

    def test_no_pieces(self):
        self.assertEqual(ask([0, 0], [[0], [1]], SERVE, STATE), [[0, 0, 0], [2, 0, 0, 0]])

    def test_nobody(self):
        self.assertEqual(ask([100, 3], [], SERVE, SERVE, STATE), [[0], [0], [2, 0, 100, 3]])

    def test_a_list_of_one(self):
        self.assertEqual(ask([0, 2], [[1], [0], [1], [1]], SERVE, STATE), [[2, 2, 0, 2, 0], [2, 0, 0, 0]])

    def test_two_who_want_the_same_one_piece(self):
        self.assertEqual(ask([1], [[0], [0]], SERVE, SERVE, STATE), [[1, 1, 0], [0], [1, 0, 0]])

    def test_six_more_may_come(self):
        six = [person(*goods) for goods in SIX_LISTS]
        answered = ask([9, 9, 9], SIX_LISTS, SERVE, *six, person(0), put(0, 1))
        self.assertEqual(answered[1:], [[0], [1], [2], [3], [4], [5], [TOO_MANY], [7]])

    def test_what_was_begun_stays_begun(self):
        answered = ask([1], [[0]], SERVE, put(1, 1), put(0, 4), plus(0), MOST, begin(2), STATE)
        self.assertEqual(answered, [[1, 1], [NONE_SUCH], [0], [0], [0, 0], [0], [2, 0, 0, 0]])


class Refusals(StoreCase):
    def test_a_refused_call_between_two_others(self):
        line = shop([1], []) + [person(1), person(0), put(0, 101), GOT, drop(1), GOT]
        self.assertEqual(answer_line(*line)[2:], [[OUT_OF_RANGE], [0], [OUT_OF_RANGE], [1, 1], [NONE_SUCH], [1, 1]])


if __name__ == "__main__":
    unittest.main()
