"""What the tests share: calls in plain words, lines answered call by call, a case for refusals."""

import unittest

from standgoods.store import answers

LARGEST = 4294967295
NONE_SUCH, NOT_BEGUN, OUT_OF_RANGE, TOO_MANY = -2, -11, -22, -28

# People of a store of three goods, as many as may come; and lists that it refuses.
SIX_LISTS = [[0], [1], [2, 0], [0, 1], [1, 2], [2, 1, 0]]
WRONG_LISTS = [
    [],
    [0, 0],
    [0, 1, 0],
    [3],
    [0, 3],
    [3, 0],
    [LARGEST],
    [0, 1, LARGEST],
    [0, 1, 2, 0, 1, 2],
    [0, 1, 2, 3, 4],
    [0, 1, 2, 3, 4, 5, 6, 7],
    [0] * 8,
    [LARGEST] * 8,
]


def begin(count):
    return [0, count]


def put(good, count):
    return [1, good, count]


def person(*goods):
    return [2, len(goods), *goods]


def drop(number):
    return [3, number]


GOT, LOST, LEFT, MOST = [4], [5], [6], [7]


def plus(good):
    return [8, good]


def told(number, *goods):
    return [9, number, len(goods), *goods]


def ahead(number):
    return [10, number]


def lay(count):
    return [11, count]


def swap(one, other):
    return [13, one, other]


def wanted(good):
    return [15, good]


def look(number):
    return [16, number]


RANKS, NEEDED, SERVE, SUMS, STATE = [12], [14], [17], [18], [19]

# Calls whose answers tell two stores apart if anything in them differs.
PROBE = [STATE] + [look(number) for number in range(7)] + [GOT, LEFT, MOST]


def shop(pieces, lists):
    """The calls by which a new store comes to hold these pieces and these people."""
    calls = [begin(len(pieces))]
    calls += [put(good, count) for good, count in enumerate(pieces)]
    return calls + [person(*goods) for goods in lists]


def answer_line(*calls):
    """The answer to each of the calls, made on one new store."""
    assert 1 <= len(calls) <= 400, "a line has 1 to 400 calls"
    flat = answers([number for call in calls for number in call])
    split = []
    start = 0
    while start < len(flat):
        split.append(flat[start + 1:start + 1 + flat[start]])
        start += 1 + flat[start]
    assert len(split) == len(calls), (calls, flat)
    return split


def ask(pieces, lists, *calls):
    """The answers to the calls alone, made on a store with these pieces and these people."""
    before = shop(pieces, lists)
    return answer_line(*before, *calls)[len(before):]


class StoreCase(unittest.TestCase):
    def assert_asked(self, pieces, lists, call, expected):
        self.assertEqual(ask(pieces, lists, call), [expected])

    def assert_refused(self, pieces, lists, call, refusal):
        """The call answers the refusal alone, and the store is as it was."""
        untouched = ask(pieces, lists, *PROBE)
        answered = ask(pieces, lists, call, *PROBE)
        self.assertEqual(answered[0], [refusal], call)
        self.assertEqual(answered[1:], untouched, call)
