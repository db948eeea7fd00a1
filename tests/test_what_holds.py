"""What holds (a to f), on all small stores and on some larger ones."""

import itertools
import random
import unittest

from tests.lines import (
    GOT, LEFT, LOST, MOST, NEEDED, RANKS, SERVE, STATE, ahead, ask, drop, lay, plus, put, swap, told,
)


def lists_of(goods):
    return [list(some) for length in range(1, goods + 1) for some in itertools.permutations(range(goods), length)]


def small_stores():
    for pieces in itertools.product(range(3), repeat=2):
        for people in range(4):
            for lists in itertools.product(lists_of(2), repeat=people):
                yield list(pieces), list(lists)


def larger_stores(count):
    chance = random.Random(61)
    for turn in range(count):
        goods = chance.randint(1, 5)
        lists = [chance.choice(lists_of(goods)) for turn in range(chance.randint(0, 6))]
        yield [chance.choice((0, 0, 1, 1, 2, 3)) for good in range(goods)], lists


def all_stores():
    return itertools.chain(small_stores(), larger_stores(300))


def how_far_down(goods, taken):
    return goods.index(taken - 1) if taken else len(goods)


def stocks_of(goods, count):
    return [stock for stock in itertools.product(range(count + 1), repeat=goods) if sum(stock) == count]


def ways(pieces, lists):
    """Every way, as what each gets: the good and one, or 0."""
    for way in itertools.product(*[[0] + [good + 1 for good in goods] for goods in lists]):
        if all(way.count(good + 1) <= count for good, count in enumerate(pieces)):
            yield way


def most_by_walls(pieces, lists):
    """Most by another thought: whatever goods are walled off, the rest serves no more than its pieces."""
    bounds = []
    for chosen in itertools.product((False, True), repeat=len(pieces)):
        beyond = [goods for goods in lists if not all(chosen[good] for good in goods)]
        bounds.append(len(beyond) + sum(count for good, count in enumerate(pieces) if chosen[good]))
    return min(bounds)


class WhatHolds(unittest.TestCase):
    def test_each_takes_the_first_that_is_there(self):
        for pieces, lists in all_stores():
            there = dict(enumerate(pieces))
            expected = []
            for goods in lists:
                wanted = [good for good in goods if there[good]]
                expected.append(wanted[0] + 1 if wanted else 0)
                if wanted:
                    there[wanted[0]] -= 1
            served = len([taken for taken in expected if taken])
            lost = [number for number, taken in enumerate(expected) if not taken]
            self.assertEqual(ask(pieces, lists, GOT, LOST, LEFT), [
                [served] + expected,
                [len(lost)] + lost,
                [sum(there.values())] + list(there.values()),
            ])

    def test_by_no_way_is_somebody_better_off_and_nobody_worse(self):
        for pieces, lists in small_stores():
            got = ask(pieces, lists, GOT)[0][1:]
            down = [how_far_down(goods, taken) for goods, taken in zip(lists, got)]
            for way in ways(pieces, lists):
                other = [how_far_down(goods, taken) for goods, taken in zip(lists, way)]
                self.assertFalse(other != down and all(a <= b for a, b in zip(other, down)), (pieces, lists, way))

    def test_most_is_what_the_best_way_serves(self):
        for pieces, lists in small_stores():
            best = max(len(way) - way.count(0) for way in ways(pieces, lists))
            most, served = ask(pieces, lists, MOST)[0]
            self.assertEqual(most, best, (pieces, lists))

    def test_most_is_what_the_walls_allow_and_at_most_twice_served(self):
        for pieces, lists in all_stores():
            got, (most, served) = ask(pieces, lists, GOT, MOST)
            self.assertEqual(most, most_by_walls(pieces, lists), (pieces, lists))
            self.assertEqual(served, got[0])
            self.assertTrue(served <= most <= 2 * served, (pieces, lists))

    def test_with_one_piece_more_nobody_is_worse_off(self):
        for pieces, lists in all_stores():
            for good, count in enumerate(pieces):
                more, before, was, after = ask(pieces, lists, plus(good), GOT, put(good, count + 1), GOT)
                self.assertEqual(was, [count])
                changed = [number for number in range(len(lists)) if before[1 + number] != after[1 + number]]
                self.assertEqual(more, [after[0] - before[0]] + changed, (pieces, lists, good))
                self.assertIn(more[0], (0, 1))
                for number, goods in enumerate(lists):
                    down = how_far_down(goods, after[1 + number])
                    self.assertLessEqual(down, how_far_down(goods, before[1 + number]))

    def test_nobody_gets_anything_better_by_telling_another_list(self):
        for pieces, lists in itertools.chain(small_stores(), larger_stores(60)):
            got = ask(pieces, lists, GOT)[0]
            others = lists_of(len(pieces))[:30]
            for number, goods in enumerate(lists):
                answered = ask(pieces, lists, *[told(number, *other) for other in others])
                for other, (then, now) in zip(others, answered):
                    changed = lists[:number] + [other] + lists[number + 1:]
                    self.assertEqual(now, got[1 + number])
                    self.assertEqual(then, ask(pieces, changed, GOT)[0][1 + number])
                    if then - 1 in goods:
                        self.assertGreaterEqual(how_far_down(goods, then), how_far_down(goods, now))

    def test_who_comes_first_is_never_worse_off(self):
        for pieces, lists in all_stores():
            got = ask(pieces, lists, GOT)[0]
            for number, goods in enumerate(lists):
                moved = [goods] + lists[:number] + lists[number + 1:]
                then = ask(pieces, moved, GOT)[0]
                first, now, served = ask(pieces, lists, ahead(number))[0]
                self.assertEqual([first, now, served], [then[1], got[1 + number], then[0]], (pieces, lists, number))
                self.assertLessEqual(how_far_down(goods, first), how_far_down(goods, now))

    def test_by_no_stock_of_so_many_pieces_more_are_served(self):
        for pieces, lists in itertools.chain(small_stores(), larger_stores(25)):
            for count in (0, 1, 2, 3, 5):
                laid = ask(pieces, lists, lay(count))[0]
                tried = []
                for stock in stocks_of(len(pieces), count):
                    got, ranks = ask(stock, lists, GOT, RANKS)
                    tried.append((-got[0], ranks[0], stock))
                served, far, stock = min(tried)
                self.assertEqual(laid, [-served, *stock], (pieces, lists, count))
                self.assertEqual(-served, min(count, len(lists)))

    def test_how_far_down_each_is_served(self):
        for pieces, lists in all_stores():
            got, ranks = ask(pieces, lists, GOT, RANKS)
            down = [how_far_down(goods, taken) for goods, taken in zip(lists, got[1:])]
            self.assertEqual(ranks, [sum(down)] + down, (pieces, lists))

    def test_needed_is_of_what_one_piece_fewer_serves_fewer(self):
        for pieces, lists in all_stores():
            got, needed = ask(pieces, lists, GOT, NEEDED)
            fewer = []
            for good, count in enumerate(pieces):
                if count and ask(pieces, lists, put(good, count - 1), GOT)[1][0] < got[0]:
                    fewer.append(good)
            self.assertEqual(needed, [len(fewer)] + fewer, (pieces, lists))

    def test_after_a_swap_it_is_as_if_they_had_come_so(self):
        for pieces, lists in itertools.chain(small_stores(), larger_stores(60)):
            for one, other in itertools.permutations(range(len(lists)), 2):
                changed = list(lists)
                changed[one], changed[other] = lists[other], lists[one]
                before, answered, after, left = ask(pieces, lists, GOT, swap(one, other), GOT, LEFT)
                self.assertEqual([after, left], ask(pieces, changed, GOT, LEFT), (pieces, lists, one, other))
                self.assertEqual(answered, [after[0], before[0]])

    def test_serving_gives_what_was_told_and_leaves_what_was_told(self):
        for pieces, lists in all_stores():
            got, left, served, state = ask(pieces, lists, GOT, LEFT, SERVE, STATE)
            self.assertEqual(served, got, (pieces, lists))
            self.assertEqual(state, [len(pieces), 0] + left[1:], (pieces, lists))

    def test_of_no_good_more_is_given_than_there_is(self):
        for pieces, lists in all_stores():
            got, left = ask(pieces, lists, GOT, LEFT)
            for good, count in enumerate(pieces):
                self.assertEqual(count, left[1 + good] + got[1:].count(good + 1))
                self.assertGreaterEqual(left[1 + good], 0)

    def test_after_a_drop_it_is_as_if_they_had_never_come(self):
        for pieces, lists in all_stores():
            for number in range(len(lists)):
                rest = lists[:number] + lists[number + 1:]
                dropped = ask(pieces, lists, drop(number), GOT, LOST, LEFT, MOST)
                self.assertEqual(dropped, [[len(rest)]] + ask(pieces, rest, GOT, LOST, LEFT, MOST))


if __name__ == "__main__":
    unittest.main()
