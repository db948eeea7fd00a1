"""Lines of all twenty calls, wrong ones among them, beside a second reading of the document."""

import itertools
import random
import unittest

from tests.lines import (
    GOT, LARGEST, LEFT, LOST, MOST, NEEDED, NONE_SUCH, NOT_BEGUN, OUT_OF_RANGE, RANKS, SERVE, STATE, SUMS, TOO_MANY,
    ahead, answer_line, begin, drop, lay, look, person, plus, put, swap, told, wanted,
)


def give(stock, people):
    """Of each the good and one, as they come."""
    given = []
    for goods in people:
        there = [good + 1 for good in goods if stock[good] - given.count(good + 1) > 0]
        given.append((there + [0])[0])
    return given


def served(stock, people):
    return sum(1 for taken in give(stock, people) if taken)


def places(stock, people):
    return [(goods + [-1]).index(taken - 1) for goods, taken in zip(people, give(stock, people))]


def most_by_ways(stock, people):
    """Ways differ only in how many pieces of each good are out, so these are all that is kept of them."""
    reached = {(0,) * len(stock)}
    for goods in people:
        for out in list(reached):
            for good in goods:
                if out[good] < stock[good]:
                    reached.add(out[:good] + (out[good] + 1,) + out[good + 1:])
    return max(sum(out) for out in reached)


class SecondReading:
    """The store as the document tells it; a method for each call, by its number."""

    def __init__(self):
        self.stock = None
        self.people = []

    def answer(self, call):
        number, arguments = call[0], call[1:]
        if number == 0:
            return self.begin(*arguments)
        if self.stock is None:
            return [NOT_BEGUN]
        for argument in self.goods_named(number, arguments):
            if argument >= len(self.stock):
                return [NONE_SUCH]
        for argument in self.people_named(number, arguments):
            if argument >= len(self.people):
                return [NONE_SUCH]
        name = ("", "put", "person", "drop", "got", "lost", "left", "most", "plus", "told", "ahead", "lay", "ranks",
                "swap", "needed", "wanted", "look", "serve", "sums", "state")[number]
        return getattr(self, name)(*arguments)

    def goods_named(self, number, arguments):
        return arguments[:1] if number in (1, 8, 15) else []

    def people_named(self, number, arguments):
        return arguments[:2] if number == 13 else arguments[:1] if number in (3, 9, 10, 16) else []

    def list_as_told(self, goods):
        return 1 <= len(goods) <= 5 and all(goods.count(good) == 1 and good < len(self.stock) for good in goods)

    def begin(self, count):
        if count not in range(1, 6):
            return [OUT_OF_RANGE]
        self.stock, self.people = [0] * count, []
        return [0]

    def put(self, good, count):
        if count > 100:
            return [OUT_OF_RANGE]
        were, self.stock[good] = self.stock[good], count
        return [were]

    def person(self, length, *goods):
        if not self.list_as_told(goods):
            return [OUT_OF_RANGE]
        if len(self.people) >= 6:
            return [TOO_MANY]
        self.people.append(list(goods))
        return [len(self.people) - 1]

    def drop(self, number):
        del self.people[number]
        return [len(self.people)]

    def swap(self, one, other):
        if one == other:
            return [OUT_OF_RANGE]
        were = served(self.stock, self.people)
        self.people[one], self.people[other] = self.people[other], self.people[one]
        return [served(self.stock, self.people), were]

    def serve(self):
        answer = self.got()
        for taken in answer[1:]:
            if taken:
                self.stock[taken - 1] -= 1
        self.people = []
        return answer

    def got(self):
        return [served(self.stock, self.people)] + give(self.stock, self.people)

    def lost(self):
        without = [number for number, taken in enumerate(give(self.stock, self.people)) if not taken]
        return [len(without)] + without

    def left(self):
        given = give(self.stock, self.people)
        rest = [count - given.count(good + 1) for good, count in enumerate(self.stock)]
        return [sum(rest)] + rest

    def ranks(self):
        each = places(self.stock, self.people)
        return [sum(each)] + each

    def most(self):
        return [most_by_ways(self.stock, self.people), served(self.stock, self.people)]

    def changed_by(self, good, pieces):
        return [count + pieces * (number == good) for number, count in enumerate(self.stock)]

    def needed(self):
        now = served(self.stock, self.people)
        goods = [good for good in range(len(self.stock)) if served(self.changed_by(good, -1), self.people) < now]
        return [len(goods)] + goods

    def plus(self, good):
        now, then = give(self.stock, self.people), give(self.changed_by(good, 1), self.people)
        people = [number for number in range(len(now)) if now[number] != then[number]]
        return [now.count(0) - then.count(0)] + people

    def told(self, number, length, *goods):
        if not self.list_as_told(goods):
            return [OUT_OF_RANGE]
        others = self.people[:number] + [list(goods)]
        return [give(self.stock, others)[-1], give(self.stock, self.people)[number]]

    def ahead(self, number):
        queue = sorted(range(len(self.people)), key=lambda one: one != number)
        then = give(self.stock, [self.people[one] for one in queue])
        return [then[0], give(self.stock, self.people)[number], len(then) - then.count(0)]

    def lay(self, count):
        if count > 8:
            return [OUT_OF_RANGE]
        rated = []
        for ends in itertools.combinations_with_replacement(range(count + 1), len(self.stock) - 1):
            stock = [end - start for start, end in zip((0, *ends), (*ends, count))]
            rated.append((-served(stock, self.people), sum(places(stock, self.people)), stock))
        best = min(rated)
        return [-best[0]] + best[2]

    def wanted(self, good):
        return [[goods[0] for goods in self.people].count(good), sum(self.people, []).count(good)]

    def look(self, number):
        return [len(self.people[number])] + self.people[number]

    def sums(self):
        return [0, sum(self.stock), len(self.people), served(self.stock, self.people)]

    def state(self):
        return [len(self.stock), len(self.people)] + self.stock


class Chance:
    """Calls by chance, of which some are refused."""

    def __init__(self, seed):
        self.random = random.Random(seed)

    def number(self, limit):
        """Below the limit mostly, now and then at it or far beyond."""
        return self.random.choice([self.random.randrange(limit)] * 12 + [limit, limit + 1, LARGEST])

    def goods(self):
        if self.random.randrange(8) == 0:
            return [self.number(5) for turn in range(self.random.randint(0, 8))]
        some = list(range(self.random.choice((2, 3, 5))))
        self.random.shuffle(some)
        return some[:self.random.randint(1, len(some))]

    def call(self):
        pieces = self.random.choice((0, 0, 1, 1, 2, 3, 100, 101, LARGEST))
        often = [person(*self.goods()), put(self.number(5), pieces)] * 3
        seldom = [
            drop(self.number(6)), swap(self.number(6), self.number(6)),
            GOT, LOST, LEFT, MOST, RANKS, NEEDED, SUMS, STATE,
            plus(self.number(5)), told(self.number(6), *self.goods()), ahead(self.number(6)), lay(self.number(9)),
            wanted(self.number(5)), look(self.number(6)),
        ]
        rarely = self.random.choice([SERVE, begin(self.number(6))])
        return self.random.choice(often + seldom * 2 + [rarely])

    def line(self):
        """400 calls, the first of which are made before there is a store, unless chance has begun one."""
        calls = [self.call() for turn in range(self.random.randrange(12))]
        calls.append(begin(self.random.randint(1, 5)))
        return calls + [self.call() for turn in range(400 - len(calls))]


class WholeLines(unittest.TestCase):
    def test_as_by_the_second_reading(self):
        answered, refused = set(), set()
        for seed in range(40):
            line = Chance(seed).line()
            store = SecondReading()
            expected = [store.answer(call) for call in line]
            for call, answer, wish in zip(line, answer_line(*line), expected):
                self.assertEqual(answer, wish, (seed, call))
                if wish[0] < 0:
                    refused.add((call[0], wish[0]))
                else:
                    answered.add(call[0])
        # Chance has brought every call, and every refusal that is told of one.
        self.assertEqual(answered, set(range(20)))
        told_of = {number: {NOT_BEGUN} for number in range(1, 20)}
        told_of[0] = {OUT_OF_RANGE}
        for number in (1, 3, 8, 9, 10, 13, 15, 16):
            told_of[number].add(NONE_SUCH)
        for number in (1, 2, 9, 11, 13):
            told_of[number].add(OUT_OF_RANGE)
        told_of[2].add(TOO_MANY)
        self.assertEqual(refused, {(number, refusal) for number in told_of for refusal in told_of[number]})


if __name__ == "__main__":
    unittest.main()
