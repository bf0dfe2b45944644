"""What the tests share: calls as lists of numbers, and routers to look into."""

from pathrouter.core import Router

SELF = 100
INT_ENDS = (-2147483648, 2147483647)
GREATEST = 4294967295
# Networks, among them those with the fewest and the most bits.
NETWORKS = (
    (0, 0), (0, 1), (1 << 31, 1), (0, 8), (10 << 24, 8), (0xFFFFFF00, 24), (0xFFFFFFFE, 31), (0, 31),
    (0, 32), (1, 32), (GREATEST, 32),
)
# A bit set that doesn't count, or a count of bits that there can't be.
NO_NETWORKS = (
    (1, 0), (1 << 31, 0), (GREATEST, 0), (1 << 30, 1), ((10 << 24) + 1, 8), ((10 << 24) + (1 << 23), 8),
    (1, 31), (0xFFFFFF80, 24), (0, -1), (0, 33), (GREATEST, 33), (0, INT_ENDS[0]), (0, INT_ENDS[1]),
)


def padded(path, rest=0):
    return list(path) + [rest] * (16 - len(path))


def begin(self_number=SELF):
    return [1, self_number]


def up(k, as_number=None, ident=0):
    return [2, k, 200 + k if as_number is None else as_number, ident]


def down(k):
    return [3, k]


def tell(k, net, bits, path=(1,), count=None, pref=0, origin=0, med=0, rest=0):
    count = len(path) if count is None else count
    return [4, k, net, bits, count, pref, origin, med, 16] + padded(path, rest)


def back(k, net, bits):
    return [5, k, net, bits]


def next_told():
    return [6]


def best(net, bits):
    return [7, net, bits]


def send(address):
    return [8, address]


def count():
    return [9]


def line(*calls):
    return [number for call in calls for number in call]


def route(k, net, bits, path, pref=0, origin=0, med=0):
    """A route as next and best answer it; without a path it is taken back."""
    return [k, net, bits, len(path), pref, origin, med] + padded(path)


def do(router, call):
    """One call, given as in the list of calls, on a router that the test can look into."""
    numbers = call[1:]
    if call[0] == 1:
        return router.begin(numbers[0])
    if call[0] == 2:
        return router.up(*numbers)
    if call[0] == 3:
        return router.down(*numbers)
    if call[0] == 4:
        return router.tell(*numbers[:7], numbers[8:])
    if call[0] == 5:
        return router.back(*numbers)
    if call[0] == 6:
        return router.next_told()
    if call[0] == 7:
        return router.best(*numbers)
    if call[0] == 8:
        return router.send(*numbers)
    return router.count_networks()


def do_all(router, calls):
    return [do(router, call) for call in calls]


def router_with(*neighbours, self_number=SELF):
    """A router whose neighbours are up, with as 200 + k and id 0."""
    router = Router()
    router.begin(self_number)
    do_all(router, [up(k) for k in neighbours])
    return router


def row(router):
    """The pairs that wait, in their order, as (k, net, bits)."""
    return [(k, net, bits) for k, (net, bits) in router.waiting]


def take_all(router):
    """All that next answers until none waits any more."""
    taken = []
    while True:
        answer = router.next_told()
        if answer == [8]:
            return taken
        taken.append(answer)


def due_for(router, k, net, bits):
    return router.due_to(k, (net, bits))


def best_teller(router, net, bits):
    teller = router.best(net, bits)[0]
    return None if teller == 8 else teller


def held(router):
    """The routes that are held, by (k, net, bits)."""
    return {
        (k, net, bits): (held_route.path, held_route.pref, held_route.origin, held_route.med)
        for (net, bits), entry in router.networks.items()
        for k, held_route in entry.routes.items()
    }


def told(router):
    return {
        (k, net, bits): what
        for (net, bits), entry in router.networks.items()
        for k, what in entry.told.items()
    }


def all_of(router):
    """All that a router keeps, as plain values that later calls don't change."""
    neighbours = [None if n is None else (n.number, n.as_number, n.ident) for n in router.neighbours]
    return (router.self_number, neighbours, held(router), told(router), row(router), sorted(router.networks))
