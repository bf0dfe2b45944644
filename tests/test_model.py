"""The router beside a plain one that follows the document word by word, over many mixed calls."""

import random
import unittest

from pathrouter.core import Router
from tests.helper import all_of, back, begin, do, down, set_told, take_all, tell, up

NUMBERS = (0, 1, 2, 3)
NETWORKS = ((0, 0), (0, 1), (1 << 31, 1), (0, 32), (1, 32), (1 << 30, 2), (1 << 31, 32))


class Plain:
    """Routes and what was told by (k, net, bits), and the row as a list."""

    def __init__(self):
        self.begin(0)

    def begin(self, number):
        self.number, self.ups, self.routes, self.told, self.row = number, {}, {}, {}, []
        return 0

    def networks(self):
        return sorted({key[1:] for key in self.routes})

    def up(self, k, as_number, ident):
        if k not in range(8) or k in self.ups:
            return -1
        self.ups[k] = (as_number, ident)
        self.row += [(k,) + network for network in self.networks()]
        return 0

    def down(self, k):
        if k not in self.ups:
            return -1
        had = sorted(key[1:] for key in self.routes if key[0] == k)
        self.routes = {key: route for key, route in self.routes.items() if key[0] != k}
        self.told = {key: what for key, what in self.told.items() if key[0] != k}
        self.row = [pair for pair in self.row if pair[0] != k]
        self.ups.pop(k)
        for network in had:
            self.look(network)
        return 0

    def is_network(self, net, bits):
        return 0 <= bits <= 32 and f"{net:032b}"[bits:].count("1") == 0

    def tell(self, k, net, bits, count, pref, origin, med, path):
        if k not in self.ups or not self.is_network(net, bits) or count not in range(1, 17) or origin > 2:
            return -1
        path = tuple(path[:count])
        self.routes.pop((k, net, bits), None)
        if self.number not in path:
            self.routes[(k, net, bits)] = (path, pref, origin, med)
        self.look((net, bits))
        return 0

    def back(self, k, net, bits):
        if k not in self.ups or not self.is_network(net, bits):
            return -1
        if self.routes.pop((k, net, bits), None) is not None:
            self.look((net, bits))
        return 0

    def beats(self, one, other, network):
        (path, pref, origin, med), (path2, pref2, origin2, med2) = (self.routes[(k,) + network] for k in (one, other))
        alike = path[0] == path2[0]
        mine = (-pref, len(path), origin, med if alike else 0, self.ups[one], one)
        return mine < (-pref2, len(path2), origin2, med2 if alike else 0, self.ups[other], other)

    def due(self, k, network):
        best = None
        for other in range(8):
            if (other,) + network in self.routes and (best is None or self.beats(other, best, network)):
                best = other
        if best is None or best == k:
            return None
        path, _, origin, _ = self.routes[(best,) + network]
        if self.ups[k][0] in path or len(path) > 15:
            return None
        return ((self.number,) + path, origin)

    def look(self, network):
        for k in sorted(self.ups):
            pair = (k,) + network
            if self.due(k, network) == self.told.get(pair):
                self.row = [other for other in self.row if other != pair]
            elif pair not in self.row:
                self.row.append(pair)

    def take_all(self):
        for pair in self.row:
            what = self.due(pair[0], pair[1:])
            self.told.pop(pair, None)
            if what is not None:
                self.told[pair] = what
        self.row = []

    def all_of(self):
        neighbours = [(k,) + self.ups[k] if k in self.ups else None for k in range(8)]
        stands = sorted({key[1:] for key in self.routes} | {key[1:] for key in self.told})
        return (self.number, neighbours, self.routes, self.told, self.row, stands)


def some_call(chance):
    k = chance.choice((0, 1, 2, 3, 4, 5, 6, 7, 0, 1, 2, -1, 8))
    net, bits = chance.choice(NETWORKS) if chance.random() < 0.95 else (1, chance.choice((-1, 31, 33)))
    kind = chance.random()
    if kind < 0.005:
        return begin(chance.choice(NUMBERS))
    if kind < 0.15:
        return up(k, chance.choice(NUMBERS), chance.choice(NUMBERS))
    if kind < 0.25:
        return down(k)
    if kind < 0.4:
        return back(k, net, bits)
    pool = chance.choice(((4, 5, 6), (4, 5) + NUMBERS))
    path = [chance.choice(pool) for _ in range(16)]
    count = chance.choice((1, 1, 2, 2, 3, 15, 16, 0, 17))
    few = [chance.choice((0, 0, 0, 1)) for _ in range(2)]
    return tell(k, net, bits, path, count=count, pref=few[0], origin=chance.choice((0, 0, 1, 2, 3)), med=few[1])


class BesidePlain(unittest.TestCase):
    def test_mixed_calls(self):
        for seed in range(40):
            chance = random.Random(seed)
            router, plain = Router(), Plain()
            for step in range(300):
                call = some_call(chance)
                self.assertEqual(do(router, call), do(plain, call), (seed, step, call))
                self.assertEqual(all_of(router), plain.all_of(), (seed, step, call))
                self.some_told(chance, router, plain)

    def some_told(self, chance, router, plain):
        """There is no call yet by which neighbours are told: the row's pairs are taken from outside."""
        if chance.random() < 0.03:
            take_all(router)
            plain.take_all()
        elif plain.row and chance.random() < 0.3:
            pair = plain.row[0]
            what = plain.due(pair[0], pair[1:])
            if what is not None:
                set_told(router, *pair, *what)
                plain.told[pair] = what
                plain.row = plain.row[1:]


if __name__ == "__main__":
    unittest.main()
