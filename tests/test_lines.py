"""How lines of calls are handed in, and how their answers are given back (the interface)."""

import unittest

from standgoods.store import answers
from tests.lines import (
    GOT, LARGEST, LEFT, LOST, MOST, NEEDED, NOT_BEGUN, OUT_OF_RANGE, RANKS, SERVE, STATE, SUMS, ahead, answer_line,
    begin, drop, lay, look, person, plus, put, shop, swap, told, wanted,
)


def refuse(self, *arguments):
    raise AssertionError("what is handed in is changed")


class Untouchable(list):
    """A list that tells of every change, even one that is taken back."""

    append = clear = extend = insert = pop = remove = reverse = sort = refuse
    __setitem__ = __delitem__ = __iadd__ = __imul__ = refuse


ALL_CALLS = shop([2, 0, 1], [[0, 1], [1, 2], [2]]) + [
    GOT, LOST, LEFT, MOST, plus(1), told(2, 0, 1), drop(0), GOT, person(), put(7, 7), told(0, *[LARGEST] * 8),
    ahead(1), lay(3), RANKS, swap(0, 1), NEEDED, wanted(2), look(1), SUMS, STATE, swap(0, 0), lay(9), look(LARGEST),
    SERVE, STATE, begin(2), SERVE,
]


def flat(calls):
    return [number for call in calls for number in call]


class TheForm(unittest.TestCase):
    def test_one_list_to_the_number(self):
        line = [0, 2, 1, 0, 1, 2, 2, 0, 1, 2, 1, 0, 4, 5, 6, 7, 8, 1, 9, 1, 2, 1, 0, 3, 0, 4]
        self.assertEqual(answers(line), [
            1, 0,
            1, 0,
            1, 0,
            1, 1,
            3, 1, 1, 0,
            2, 1, 1,
            3, 0, 0, 0,
            2, 1, 1,
            1, 0,
            2, 0, 0,
            1, 1,
            2, 1, 1,
        ])

    def test_the_other_ten_to_the_number(self):
        line = [0, 2, 1, 0, 1, 1, 1, 1, 2, 2, 0, 1, 2, 1, 0]
        line += [10, 1, 11, 1, 12, 13, 0, 1, 14, 15, 1, 16, 1, 18, 19, 17, 19]
        self.assertEqual(answers(line), [
            1, 0,
            1, 0,
            1, 0,
            1, 0,
            1, 1,
            3, 1, 0, 2,
            3, 1, 1, 0,
            3, 1, 0, 1,
            2, 2, 1,
            3, 2, 0, 1,
            2, 0, 1,
            3, 2, 0, 1,
            4, 0, 2, 2, 2,
            4, 2, 2, 1, 1,
            3, 2, 1, 2,
            4, 2, 0, 0, 0,
        ])

    def test_refusals_stand_alone(self):
        self.assertEqual(answers([4, 0, 0, 0, 1, 8, 1, 2, 0, 3, 0]), [1, -11, 1, -22, 1, 0, 1, -2, 1, -22, 1, -2])
        line = [17, 0, 1, 10, 0, 11, 9, 13, 0, 0, 15, 1, 16, 0, 2, 1, 0, 13, 0, 0, 13, 1, 1]
        refusals = [1, -2, 1, -22, 1, -2, 1, -2, 1, -2]
        self.assertEqual(answers(line), [1, -11, 1, 0] + refusals + [1, 0, 1, -22, 1, -2])

    def test_lists_of_none_and_of_eight_are_read_to_their_end(self):
        line = [person(), begin(1), person(*[4] * 8), told(0), person(0), told(0, *[4] * 8), told(0), GOT]
        self.assertEqual(answer_line(*line), [[-11], [0], [-22], [-2], [0], [-22], [-22], [0, 0]])

    def test_one_call_alone(self):
        self.assertEqual(answers([0, 5]), [1, 0])
        self.assertEqual(answers([7]), [1, -11])

    def test_a_list_of_whole_numbers_is_given_back(self):
        given = answers(flat(ALL_CALLS))
        self.assertIs(type(given), list)
        self.assertEqual({type(number) for number in given}, {int})


class Whole(unittest.TestCase):
    def test_what_is_handed_in_is_not_changed(self):
        line = flat(ALL_CALLS)
        before = list(line)
        given = answers(line)
        self.assertEqual(line, before)
        self.assertEqual(answers(Untouchable(line)), given)

    def test_what_is_given_back_is_no_part_of_what_is_kept(self):
        line = flat(ALL_CALLS)
        given = answers(line)
        kept = list(given)
        given.clear()
        self.assertEqual(answers(line), kept)

    def test_nothing_is_kept_from_one_time_to_the_next(self):
        line = flat(ALL_CALLS)
        self.assertEqual(answers(line), answers(line))
        self.assertEqual(answers(GOT), [1, NOT_BEGUN])
        self.assertEqual(answers(STATE), [1, NOT_BEGUN])

    def test_all_twenty_calls_are_among_these(self):
        self.assertEqual({call[0] for call in ALL_CALLS}, set(range(20)))


class Long(unittest.TestCase):
    def test_400_calls_as_long_as_they_can_be(self):
        line = told(LARGEST, *[LARGEST] * 8) * 400
        self.assertEqual(len(line), 4400)
        self.assertEqual(answers(line), [1, NOT_BEGUN] * 400)

    def test_400_calls_in_a_full_store(self):
        start = shop([1, 1, 1, 1, 2], [[0, 1, 2, 3, 4], [0, 1, 2, 3, 4], [0, 1, 2, 3], [0, 1, 2], [0, 1], [0]])
        line = start + [MOST] * (400 - len(start))
        self.assertEqual(answer_line(*line)[len(start):], [[6, 3]] * (400 - len(start)))

    def test_400_calls_with_people_who_come_and_go(self):
        rounds = [put(0, 1), person(0), person(1, 0), GOT, LOST, drop(0), GOT, drop(0)]
        line = [begin(2)] + rounds * 49 + [LEFT] * 7
        first = [[0], [0], [1], [1, 1, 0], [1, 1], [1], [1, 1], [0]]
        later = [[1]] + first[1:]
        self.assertEqual(len(line), 400)
        self.assertEqual(answer_line(*line), [[0]] + first + later * 48 + [[1, 1, 0]] * 7)

    def test_400_times_lay_with_six_people_and_five_goods(self):
        lists = [[0, 1, 2, 3, 4], [1, 2, 3, 4, 0], [2, 3, 4, 0, 1], [3, 4, 0, 1, 2], [3, 0], [0]]
        start = shop([1] * 5, lists)
        rest = 400 - len(start)
        self.assertEqual(answer_line(*start, *[lay(8)] * rest)[len(start):], [[6, 2, 1, 1, 2, 2]] * rest)
        self.assertEqual(answer_line(*[lay(8)] * 400), [[NOT_BEGUN]] * 400)
        self.assertEqual(answer_line(begin(5), *[lay(8)] * 399)[1:], [[0, 0, 0, 0, 0, 8]] * 399)
        self.assertEqual(answer_line(begin(5), *[lay(9)] * 399)[1:], [[OUT_OF_RANGE]] * 399)

    def test_400_calls_of_all_twenty_kinds(self):
        rounds = [
            begin(2), put(0, 2), put(1, 1), person(1, 0), person(1), GOT, LOST, LEFT, MOST, plus(1), told(1, 0),
            ahead(1), lay(2), RANKS, swap(0, 1), NEEDED, wanted(1), look(0), SUMS, STATE, SERVE, STATE, person(0),
            drop(0), SERVE,
        ]
        expected = [
            [0], [0], [0], [0], [1], [1, 2, 0], [1, 1], [2, 2, 0], [2, 1], [1, 1], [1, 0],
            [2, 0, 2], [2, 0, 2], [1, 0, 1], [2, 1], [1, 1], [2, 2], [1, 1], [0, 3, 2, 2], [2, 2, 2, 1], [2, 2, 1],
            [2, 0, 1, 0], [0], [0], [0],
        ]
        self.assertEqual({call[0] for call in rounds}, set(range(20)))
        self.assertEqual(answer_line(*rounds * 16), expected * 16)

    def test_400_times_serve_and_swap(self):
        rounds = [person(0), person(0, 1), swap(0, 1), SERVE]
        answered = answer_line(begin(2), put(0, 100), put(1, 100), *rounds * 99, STATE)
        self.assertEqual(answered[3:-1], ([[0], [1], [2, 2], [2, 1, 1]] * 50
                                          + [[0], [1], [1, 1], [1, 2, 0]] * 49))
        self.assertEqual(answered[-1], [2, 0, 0, 51])

    def test_400_begins(self):
        self.assertEqual(answer_line(*[begin(3)] * 400), [[0]] * 400)


if __name__ == "__main__":
    unittest.main()
