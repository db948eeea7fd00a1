"""How lines of calls are handed in, and how their answers are given back (the interface)."""

import unittest

from standgoods.store import answers
from tests.lines import (
    GOT, LARGEST, LEFT, LOST, MOST, NOT_BEGUN, answer_line, begin, drop, person, plus, put, shop, told,
)


def refuse(self, *arguments):
    raise AssertionError("what is handed in is changed")


class Untouchable(list):
    """A list that tells of every change, even one that is taken back."""

    append = clear = extend = insert = pop = remove = reverse = sort = refuse
    __setitem__ = __delitem__ = __iadd__ = __imul__ = refuse


ALL_CALLS = shop([2, 0, 1], [[0, 1], [1, 2], [2]]) + [
    GOT, LOST, LEFT, MOST, plus(1), told(2, 0, 1), drop(0), GOT, person(), put(7, 7), told(0, *[LARGEST] * 8),
]


def flat(calls):
    return [number for call in calls for number in call]


class TheForm(unittest.TestCase):
    def test_one_list_to_the_number(self):
        line = [0, 2, 1, 0, 1, 2, 2, 0, 1, 2, 1, 0, 4, 5, 6, 7, 8, 1, 9, 1, 2, 1, 0, 3, 0, 4]
        self.assertEqual(answers(line), [
            1, 0,
            1, 0,
            1, 0,
            1, 1,
            3, 1, 1, 0,
            2, 1, 1,
            3, 0, 0, 0,
            2, 1, 1,
            1, 0,
            2, 0, 0,
            1, 1,
            2, 1, 1,
        ])

    def test_refusals_stand_alone(self):
        self.assertEqual(answers([4, 0, 0, 0, 1, 8, 1, 2, 0, 3, 0]), [1, -11, 1, -22, 1, 0, 1, -2, 1, -22, 1, -2])

    def test_lists_of_none_and_of_eight_are_read_to_their_end(self):
        line = [person(), begin(1), person(*[4] * 8), told(0), person(0), told(0, *[4] * 8), told(0), GOT]
        self.assertEqual(answer_line(*line), [[-11], [0], [-22], [-2], [0], [-22], [-22], [0, 0]])

    def test_one_call_alone(self):
        self.assertEqual(answers([0, 5]), [1, 0])
        self.assertEqual(answers([7]), [1, -11])

    def test_a_list_of_whole_numbers_is_given_back(self):
        given = answers(flat(ALL_CALLS))
        self.assertIs(type(given), list)
        self.assertEqual({type(number) for number in given}, {int})


class Whole(unittest.TestCase):
    def test_what_is_handed_in_is_not_changed(self):
        line = flat(ALL_CALLS)
        before = list(line)
        given = answers(line)
        self.assertEqual(line, before)
        self.assertEqual(answers(Untouchable(line)), given)

    def test_what_is_given_back_is_no_part_of_what_is_kept(self):
        line = flat(ALL_CALLS)
        given = answers(line)
        kept = list(given)
        given.clear()
        self.assertEqual(answers(line), kept)

    def test_nothing_is_kept_from_one_time_to_the_next(self):
        line = flat(ALL_CALLS)
        self.assertEqual(answers(line), answers(line))
        self.assertEqual(answers(GOT), [1, NOT_BEGUN])


class Long(unittest.TestCase):
    def test_400_calls_as_long_as_they_can_be(self):
        line = told(LARGEST, *[LARGEST] * 8) * 400
        self.assertEqual(len(line), 4400)
        self.assertEqual(answers(line), [1, NOT_BEGUN] * 400)

    def test_400_calls_in_a_full_store(self):
        start = shop([1, 1, 1, 1, 2], [[0, 1, 2, 3, 4], [0, 1, 2, 3, 4], [0, 1, 2, 3], [0, 1, 2], [0, 1], [0]])
        line = start + [MOST] * (400 - len(start))
        self.assertEqual(answer_line(*line)[len(start):], [[6, 3]] * (400 - len(start)))

    def test_400_calls_with_people_who_come_and_go(self):
        rounds = [put(0, 1), person(0), person(1, 0), GOT, LOST, drop(0), GOT, drop(0)]
        line = [begin(2)] + rounds * 49 + [LEFT] * 7
        first = [[0], [0], [1], [1, 1, 0], [1, 1], [1], [1, 1], [0]]
        later = [[1]] + first[1:]
        self.assertEqual(len(line), 400)
        self.assertEqual(answer_line(*line), [[0]] + first + later * 48 + [[1, 1, 0]] * 7)

    def test_400_begins(self):
        self.assertEqual(answer_line(*[begin(3)] * 400), [[0]] * 400)


if __name__ == "__main__":
    unittest.main()
