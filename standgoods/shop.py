"""The store as an object: its pieces, its people, and the calls on it."""

from standgoods.refusals import NONE_SUCH, OUT_OF_RANGE, TOO_MANY
from standgoods.serving import count_served, most_served, pieces_left, serve_all, NOTHING

MOST_GOODS = 5
MOST_PIECES = 100
MOST_PEOPLE = 6
LONGEST_LIST = 5


class Shop:
    """Each call gives back the list of the numbers that it answers; a refusal is one number alone."""

    def __init__(self):
        self.begun = False
        self.pieces = []
        self.lists = []

    def begin(self, count):
        if count < 1 or count > MOST_GOODS:
            return [OUT_OF_RANGE]
        self.begun = True
        self.pieces = [0 for good in range(count)]
        self.lists = []
        return [0]

    def put(self, good, count):
        if not self.has_good(good):
            return [NONE_SUCH]
        if count > MOST_PIECES:
            return [OUT_OF_RANGE]
        before = self.pieces[good]
        self.pieces[good] = count
        return [before]

    def person(self, goods):
        if not self.may_be_told(goods):
            return [OUT_OF_RANGE]
        if len(self.lists) == MOST_PEOPLE:
            return [TOO_MANY]
        self.lists.append(list(goods))
        return [len(self.lists) - 1]

    def drop(self, person):
        if not self.has_person(person):
            return [NONE_SUCH]
        self.lists.pop(person)
        return [len(self.lists)]

    def got(self):
        taken = self.taken_now()
        return [count_served(taken)] + taken

    def lost(self):
        taken = self.taken_now()
        without = [person for person in range(len(taken)) if taken[person] == NOTHING]
        return [len(without)] + without

    def left(self):
        rest = pieces_left(self.pieces, self.taken_now())
        return [sum(rest)] + rest

    def most(self):
        return [most_served(self.pieces, self.lists), count_served(self.taken_now())]

    def plus(self, good):
        if not self.has_good(good):
            return [NONE_SUCH]
        # One piece more is only thought of here, so it may be one above what put allows.
        pieces = list(self.pieces)
        pieces[good] += 1
        before = self.taken_now()
        after = serve_all(pieces, self.lists)
        changed = [person for person in range(len(before)) if before[person] != after[person]]
        return [count_served(after) - count_served(before)] + changed

    def told(self, person, goods):
        if not self.has_person(person):
            return [NONE_SUCH]
        if not self.may_be_told(goods):
            return [OUT_OF_RANGE]
        lists = list(self.lists)
        lists[person] = goods
        return [serve_all(self.pieces, lists)[person], self.taken_now()[person]]

    def has_good(self, good):
        return good < len(self.pieces)

    def has_person(self, person):
        return person < len(self.lists)

    def may_be_told(self, goods):
        """Whether these are 1 to 5 different goods of the store."""
        if len(goods) < 1 or len(goods) > LONGEST_LIST:
            return False
        return len(set(goods)) == len(goods) and all([self.has_good(good) for good in goods])

    def taken_now(self):
        return serve_all(self.pieces, self.lists)
