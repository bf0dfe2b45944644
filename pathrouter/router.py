"""A list of calls, one behind another, and what they answer."""

from pathrouter.core import Router

BEGIN = 1
UP = 2
DOWN = 3
TELL = 4
BACK = 5
NEXT = 6
BEST = 7
SEND = 8

# By a call's number: how many numbers it has in the list, its own among them. A path always has 16.
WIDTHS = {1: 2, 2: 4, 3: 2, 4: 25, 5: 4, 6: 1, 7: 3, 8: 2, 9: 1}


def answer_tell(router, numbers):
    k = numbers[0]
    net = numbers[1]
    bits = numbers[2]
    count = numbers[3]
    pref = numbers[4]
    origin = numbers[5]
    med = numbers[6]
    # numbers[7] only says how many numbers the path has.
    return router.tell(k, net, bits, count, pref, origin, med, numbers[8:])


def answer_one(router, call, numbers):
    """Of the calls that always answer one number: that number."""
    if call == BEGIN:
        return router.begin(numbers[0])
    if call == UP:
        return router.up(numbers[0], numbers[1], numbers[2])
    if call == DOWN:
        return router.down(numbers[0])
    if call == TELL:
        return answer_tell(router, numbers)
    if call == BACK:
        return router.back(numbers[0], numbers[1], numbers[2])
    if call == SEND:
        return router.send(numbers[0])
    return router.count_networks()


def answer(router, call, numbers):
    """All the numbers that one call answers; handed in are those behind its own number."""
    if call == NEXT:
        return router.next_told()
    if call == BEST:
        return router.best(numbers[0], numbers[1])
    return [answer_one(router, call, numbers)]


def answers(calls):
    router = Router()
    given = []
    at = 0
    while at < len(calls):
        width = WIDTHS[calls[at]]
        answered = answer(router, calls[at], calls[at + 1:at + width])
        given.append(len(answered))
        given.extend(answered)
        at = at + width
    return given
