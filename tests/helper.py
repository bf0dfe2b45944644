"""What the tests share: calls as lists of numbers, and routers to look into."""

from pathrouter.core import Router
from pathrouter.routes import should_be_told

SELF = 100
INT_ENDS = (-2147483648, 2147483647)
GREATEST = 4294967295


def padded(path, rest=0):
    return list(path) + [rest] * (16 - len(path))


def begin(self_number=SELF):
    return [1, self_number]


def up(k, as_number=None, ident=0):
    return [2, k, 200 + k if as_number is None else as_number, ident]


def down(k):
    return [3, k]


def tell(k, net, bits, path=(1,), count=None, pref=0, origin=0, med=0, rest=0):
    count = len(path) if count is None else count
    return [4, k, net, bits, count, pref, origin, med, 16] + padded(path, rest)


def back(k, net, bits):
    return [5, k, net, bits]


def do(router, call):
    """One call, given as in the list of calls, on a router that the test can look into."""
    numbers = call[1:]
    if call[0] == 1:
        return router.begin(numbers[0])
    if call[0] == 2:
        return router.up(*numbers)
    if call[0] == 3:
        return router.down(*numbers)
    if call[0] == 4:
        return router.tell(*numbers[:7], numbers[8:])
    return router.back(*numbers)


def do_all(router, calls):
    return [do(router, call) for call in calls]


def router_with(*neighbours, self_number=SELF):
    """A router whose neighbours are up, with as 200 + k and id 0."""
    router = Router()
    router.begin(self_number)
    do_all(router, [up(k) for k in neighbours])
    return router


def row(router):
    """The pairs that wait, in their order, as (k, net, bits)."""
    return [(k, net, bits) for k, (net, bits) in router.waiting]


def set_told(router, k, net, bits, path, origin):
    """As if k was told this last, and the pair was taken from the row for it."""
    router.networks[(net, bits)].told[k] = (tuple(path), origin)
    router.waiting.pop((k, (net, bits)), None)


def take_all(router):
    """As if each pair that waits was taken from the row, and the neighbour told what it should be."""
    for k, network in list(router.waiting):
        due = due_for(router, k, *network)
        if due is None:
            router.networks[network].told.pop(k, None)
            router.drop_if_empty(network)
        else:
            router.networks[network].told[k] = due
    router.waiting.clear()


def due_for(router, k, net, bits):
    best = router.entry_of((net, bits)).best_route()
    return should_be_told(best, router.neighbours[k], router.self_number)


def best_teller(router, net, bits):
    best = router.entry_of((net, bits)).best_route()
    return None if best is None else best.teller.number


def held(router):
    """The routes that are held, by (k, net, bits)."""
    return {
        (k, net, bits): (route.path, route.pref, route.origin, route.med)
        for (net, bits), entry in router.networks.items()
        for k, route in entry.routes.items()
    }


def told(router):
    return {
        (k, net, bits): what
        for (net, bits), entry in router.networks.items()
        for k, what in entry.told.items()
    }


def all_of(router):
    """All that a router keeps, as plain values that later calls don't change."""
    neighbours = [None if n is None else (n.number, n.as_number, n.ident) for n in router.neighbours]
    return (router.self_number, neighbours, held(router), told(router), row(router), sorted(router.networks))
