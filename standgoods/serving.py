"""Who takes what where people are served one behind another, how far down, and how many could be served at most.

What somebody takes is told as the good and one, so that 0 is free for nothing.
"""

NOTHING = 0


def first_there(goods, pieces):
    """What somebody with this list of goods takes from these pieces."""
    for good in goods:
        if pieces[good] > 0:
            return good + 1
    return NOTHING


def serve_all(pieces, lists):
    """What each takes, in the order in which they come."""
    there = list(pieces)
    taken = []
    for goods in lists:
        take = first_there(goods, there)
        if take != NOTHING:
            there[take - 1] -= 1
        taken.append(take)
    return taken


def count_served(taken):
    """How many have something."""
    return len(taken) - taken.count(NOTHING)


def how_far_down(goods, take):
    """The place of what is taken in the list; as many as the list has goods, if that is nothing."""
    if take == NOTHING:
        return len(goods)
    return goods.index(take - 1)


def all_far_down(lists, taken):
    """How far down each is served."""
    return [how_far_down(goods, take) for goods, take in zip(lists, taken)]


def pieces_left(pieces, taken):
    """How many pieces of each good nobody has taken."""
    return [pieces[good] - taken.count(good + 1) for good in range(len(pieces))]


def most_served(pieces, lists):
    """How many have something by the way by which most do."""
    taken = [NOTHING for goods in lists]
    for person in range(len(lists)):
        give_piece(person, pieces, lists, taken, {})
    return count_served(taken)


def give_piece(person, pieces, lists, taken, tried):
    """Give the person a piece of a good not tried yet, others moving on for it; tell whether that went."""
    for good in lists[person]:
        # A good that was tried once is in vain for whoever else is moved on in the same search.
        if good not in tried:
            tried[good] = True
            if find_piece(good, pieces, lists, taken, tried):
                taken[person] = good + 1
                return True
    return False


def find_piece(good, pieces, lists, taken, tried):
    """See to it that a piece of the good is free, by somebody moving on if need be; tell whether that went."""
    if taken.count(good + 1) < pieces[good]:
        return True
    for holder in range(len(taken)):
        if taken[holder] == good + 1 and give_piece(holder, pieces, lists, taken, tried):
            return True
    return False
