"""Lines of calls: one list of whole numbers is handed in, one is given back."""

from standgoods.refusals import NOT_BEGUN
from standgoods.shop import Shop

BEGIN = 0
PUT = 1
PERSON = 2
DROP = 3
GOT = 4
LOST = 5
LEFT = 6
MOST = 7
PLUS = 8
TOLD = 9
AHEAD = 10
LAY = 11
RANKS = 12
SWAP = 13
NEEDED = 14
WANTED = 15
LOOK = 16
SERVE = 17
SUMS = 18
STATE = 19

# By a call's number: how many whole numbers stand behind it, ahead of its list of goods if it has one.
WHOLE_NUMBERS = (1, 2, 0, 1, 0, 0, 0, 0, 1, 1, 1, 1, 0, 2, 0, 1, 1, 0, 0, 0)


def answers(calls):
    """For each call of the line how many numbers it answers, then these."""
    shop = Shop()
    given = []
    for call in split_line(calls):
        numbers = answer_call(shop, call)
        given.append(len(numbers))
        given.extend(numbers)
    return given


def split_line(calls):
    """The calls of the line, each with all its numbers."""
    parts = []
    start = 0
    while start < len(calls):
        end = start + call_length(calls, start)
        parts.append(calls[start:end])
        start = end
    return parts


def call_length(calls, start):
    """How many numbers the call that begins at start has, its own number with them."""
    length = 1 + WHOLE_NUMBERS[calls[start]]
    if calls[start] in (PERSON, TOLD):
        length += 1 + calls[start + length]
    return length


def answer_call(shop, call):
    """What the store answers to one call."""
    number = call[0]
    if number == BEGIN:
        return shop.begin(call[1])
    if not shop.begun:
        return [NOT_BEGUN]
    if number == PUT:
        return shop.put(call[1], call[2])
    if number == PERSON:
        return shop.person(call[2:])
    if number == DROP:
        return shop.drop(call[1])
    if number == SWAP:
        return shop.swap(call[1], call[2])
    if number == SERVE:
        return shop.serve()
    return answer_question(shop, call)


def answer_question(shop, call):
    """What the store answers to a call that changes nothing."""
    number = call[0]
    if number == GOT:
        return shop.got()
    if number == LOST:
        return shop.lost()
    if number == LEFT:
        return shop.left()
    if number == MOST:
        return shop.most()
    if number == RANKS:
        return shop.ranks()
    if number == NEEDED:
        return shop.needed()
    if number == SUMS:
        return shop.sums()
    if number == STATE:
        return shop.state()
    return answer_question_about(shop, call)


def answer_question_about(shop, call):
    """What the store answers to a question about a good, a person or so many pieces."""
    number = call[0]
    if number == PLUS:
        return shop.plus(call[1])
    if number == TOLD:
        return shop.told(call[1], call[3:])
    if number == AHEAD:
        return shop.ahead(call[1])
    if number == LAY:
        return shop.lay(call[1])
    if number == WANTED:
        return shop.wanted(call[1])
    return shop.look(call[1])
