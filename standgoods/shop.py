"""The store as an object: its pieces, its people, and the calls on it."""

from standgoods.laying import best_stock
from standgoods.refusals import NONE_SUCH, OUT_OF_RANGE, TOO_MANY
from standgoods.serving import all_far_down, count_served, most_served, pieces_left, serve_all, NOTHING

MOST_GOODS = 5
MOST_PIECES = 100
MOST_PEOPLE = 6
LONGEST_LIST = 5
MOST_LAID = 8


class Shop:
    """Each call gives back the list of the numbers that it answers; a refusal is one number alone."""

    def __init__(self):
        self.begun = False
        self.pieces = []
        self.lists = []

    def begin(self, count):
        if count < 1 or count > MOST_GOODS:
            return [OUT_OF_RANGE]
        self.begun = True
        self.pieces = [0 for good in range(count)]
        self.lists = []
        return [0]

    def put(self, good, count):
        if not self.has_good(good):
            return [NONE_SUCH]
        if count > MOST_PIECES:
            return [OUT_OF_RANGE]
        before = self.pieces[good]
        self.pieces[good] = count
        return [before]

    def person(self, goods):
        if not self.may_be_told(goods):
            return [OUT_OF_RANGE]
        if len(self.lists) == MOST_PEOPLE:
            return [TOO_MANY]
        self.lists.append(list(goods))
        return [len(self.lists) - 1]

    def drop(self, person):
        if not self.has_person(person):
            return [NONE_SUCH]
        self.lists.pop(person)
        return [len(self.lists)]

    def swap(self, one, other):
        if not self.has_person(one) or not self.has_person(other):
            return [NONE_SUCH]
        if one == other:
            return [OUT_OF_RANGE]
        before = self.served_now()
        goods = self.lists[one]
        self.lists[one] = self.lists[other]
        self.lists[other] = goods
        return [self.served_now(), before]

    def serve(self):
        taken = self.taken_now()
        # Gone are the pieces that were taken; what nobody took stays in the store.
        self.pieces = pieces_left(self.pieces, taken)
        self.lists = []
        return [count_served(taken)] + taken

    def got(self):
        taken = self.taken_now()
        return [count_served(taken)] + taken

    def lost(self):
        taken = self.taken_now()
        without = [person for person in range(len(taken)) if taken[person] == NOTHING]
        return [len(without)] + without

    def left(self):
        rest = pieces_left(self.pieces, self.taken_now())
        return [sum(rest)] + rest

    def ranks(self):
        far = all_far_down(self.lists, self.taken_now())
        return [sum(far)] + far

    def most(self):
        return [most_served(self.pieces, self.lists), self.served_now()]

    def needed(self):
        goods = [good for good in range(len(self.pieces)) if self.is_needed(good)]
        return [len(goods)] + goods

    def plus(self, good):
        if not self.has_good(good):
            return [NONE_SUCH]
        # One piece more is only thought of here, so it may be one above what put allows.
        pieces = list(self.pieces)
        pieces[good] += 1
        before = self.taken_now()
        after = serve_all(pieces, self.lists)
        changed = [person for person in range(len(before)) if before[person] != after[person]]
        return [count_served(after) - count_served(before)] + changed

    def told(self, person, goods):
        if not self.has_person(person):
            return [NONE_SUCH]
        if not self.may_be_told(goods):
            return [OUT_OF_RANGE]
        lists = list(self.lists)
        lists[person] = goods
        return [serve_all(self.pieces, lists)[person], self.taken_now()[person]]

    def ahead(self, person):
        if not self.has_person(person):
            return [NONE_SUCH]
        others = self.lists[:person] + self.lists[person + 1:]
        taken = serve_all(self.pieces, [self.lists[person]] + others)
        return [taken[0], self.taken_now()[person], count_served(taken)]

    def lay(self, count):
        if count > MOST_LAID:
            return [OUT_OF_RANGE]
        stock = best_stock(len(self.pieces), count, self.lists)
        return [count_served(serve_all(stock, self.lists))] + stock

    def wanted(self, good):
        if not self.has_good(good):
            return [NONE_SUCH]
        first = [goods for goods in self.lists if goods[0] == good]
        anywhere = [goods for goods in self.lists if good in goods]
        return [len(first), len(anywhere)]

    def look(self, person):
        if not self.has_person(person):
            return [NONE_SUCH]
        return [len(self.lists[person])] + self.lists[person]

    def sums(self):
        return [0, sum(self.pieces), len(self.lists), self.served_now()]

    def state(self):
        return [len(self.pieces), len(self.lists)] + self.pieces

    def has_good(self, good):
        return good < len(self.pieces)

    def has_person(self, person):
        return person < len(self.lists)

    def may_be_told(self, goods):
        """Whether these are 1 to 5 different goods of the store."""
        if len(goods) < 1 or len(goods) > LONGEST_LIST:
            return False
        return len(set(goods)) == len(goods) and all([self.has_good(good) for good in goods])

    def taken_now(self):
        return serve_all(self.pieces, self.lists)

    def served_now(self):
        return count_served(self.taken_now())

    def is_needed(self, good):
        """Whether one piece fewer of the good would have fewer served."""
        if self.pieces[good] == 0:
            return False
        pieces = list(self.pieces)
        pieces[good] -= 1
        return count_served(serve_all(pieces, self.lists)) < self.served_now()
