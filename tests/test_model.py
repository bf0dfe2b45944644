"""The router beside a plain one that follows the document word by word, over many mixed calls."""

import random
import unittest

from pathrouter.core import Router
from pathrouter.router import answers
from tests.helper import all_of, back, begin, best, count, do, down, line, next_told, send, tell, up

NUMBERS = (0, 1, 2, 3)
NETWORKS = ((0, 0), (0, 1), (1 << 31, 1), (0, 32), (1, 32), (1 << 30, 2), (1 << 31, 32))
ADDRESSES = (0, 1, 2, 1 << 30, (1 << 31) - 1, 1 << 31, (1 << 31) + 1, (1 << 32) - 1)

# What the mixed calls must have come to: the call, what it answers first, and whether that is taken back.
KINDS = [(call, 0, False) for call in (1, 2, 3, 4, 5)] + [(call, -1, False) for call in (2, 3, 4, 5, 7)]
KINDS += [(call, k, False) for call in (6, 7, 8) for k in range(9)] + [(6, k, True) for k in range(8)]
KINDS += [(9, counted, False) for counted in range(len(NETWORKS) + 1)]


class Plain:
    """Routes and what was told by (k, net, bits), and the row as a list."""

    def __init__(self):
        self.begin(0)

    def begin(self, number):
        self.number, self.ups, self.routes, self.told, self.row = number, {}, {}, {}, []
        return 0

    def networks(self):
        return sorted({key[1:] for key in self.routes})

    def up(self, k, as_number, ident):
        if k not in range(8) or k in self.ups:
            return -1
        self.ups[k] = (as_number, ident)
        self.row += [(k,) + network for network in self.networks()]
        return 0

    def down(self, k):
        if k not in self.ups:
            return -1
        had = sorted(key[1:] for key in self.routes if key[0] == k)
        self.routes = {key: route for key, route in self.routes.items() if key[0] != k}
        self.told = {key: what for key, what in self.told.items() if key[0] != k}
        self.row = [pair for pair in self.row if pair[0] != k]
        self.ups.pop(k)
        for network in had:
            self.look(network)
        return 0

    def is_network(self, net, bits):
        return 0 <= bits <= 32 and f"{net:032b}"[bits:].count("1") == 0

    def tell(self, k, net, bits, count, pref, origin, med, path):
        if k not in self.ups or not self.is_network(net, bits) or count not in range(1, 17) or origin > 2:
            return -1
        path = tuple(path[:count])
        self.routes.pop((k, net, bits), None)
        if self.number not in path:
            self.routes[(k, net, bits)] = (path, pref, origin, med)
        self.look((net, bits))
        return 0

    def back(self, k, net, bits):
        if k not in self.ups or not self.is_network(net, bits):
            return -1
        if self.routes.pop((k, net, bits), None) is not None:
            self.look((net, bits))
        return 0

    def beats(self, one, other, network):
        (path, pref, origin, med), (path2, pref2, origin2, med2) = (self.routes[(k,) + network] for k in (one, other))
        alike = path[0] == path2[0]
        mine = (-pref, len(path), origin, med if alike else 0, self.ups[one], one)
        return mine < (-pref2, len(path2), origin2, med2 if alike else 0, self.ups[other], other)

    def best_teller(self, network):
        best_so_far = None
        for k in range(8):
            if (k,) + network in self.routes and (best_so_far is None or self.beats(k, best_so_far, network)):
                best_so_far = k
        return best_so_far

    def due(self, k, network):
        teller = self.best_teller(network)
        if teller is None or teller == k:
            return None
        path, _, origin, _ = self.routes[(teller,) + network]
        if self.ups[k][0] in path or len(path) > 15:
            return None
        return ((self.number,) + path, origin)

    def look(self, network):
        for k in sorted(self.ups):
            pair = (k,) + network
            if self.due(k, network) == self.told.get(pair):
                self.row = [other for other in self.row if other != pair]
            elif pair not in self.row:
                self.row.append(pair)

    def next_told(self):
        while self.row:
            pair = self.row[0]
            self.row = self.row[1:]
            what = self.due(pair[0], pair[1:])
            if what != self.told.pop(pair, None):
                if what is None:
                    return list(pair) + [0] * 20
                self.told[pair] = what
                path, origin = what
                return list(pair) + [len(path), 0, origin, 0] + (list(path) + [0] * 16)[:16]
            if what is not None:
                self.told[pair] = what
        return [8]

    def best(self, net, bits):
        if not self.is_network(net, bits):
            return [-1]
        teller = self.best_teller((net, bits))
        if teller is None:
            return [8]
        path, pref, origin, med = self.routes[(teller, net, bits)]
        return [teller, net, bits, len(path), pref, origin, med] + (list(path) + [0] * 16)[:16]

    def send(self, address):
        holding = [(bits, net) for net, bits in self.networks() if f"{net:032b}"[:bits] == f"{address:032b}"[:bits]]
        if not holding:
            return 8
        bits, net = max(holding)
        return self.best_teller((net, bits))

    def count_networks(self):
        return len(self.networks())

    def all_of(self):
        neighbours = [(k,) + self.ups[k] if k in self.ups else None for k in range(8)]
        stands = sorted({key[1:] for key in self.routes} | {key[1:] for key in self.told})
        return (self.number, neighbours, self.routes, self.told, self.row, stands)


def some_asking_call(chance, net, bits):
    kind = chance.random()
    if kind < 0.6:
        return next_told()
    if kind < 0.75:
        return best(net, bits)
    if kind < 0.9:
        return send(chance.choice(ADDRESSES))
    return count()


def some_call(chance):
    k = chance.choice((0, 1, 2, 3, 4, 5, 6, 7, 0, 1, 2, -1, 8))
    net, bits = chance.choice(NETWORKS) if chance.random() < 0.95 else (1, chance.choice((-1, 31, 33)))
    if chance.random() < 0.4:
        return some_asking_call(chance, net, bits)
    kind = chance.random()
    if kind < 0.005:
        return begin(chance.choice(NUMBERS))
    if kind < 0.15:
        return up(k, chance.choice(NUMBERS), chance.choice(NUMBERS))
    if kind < 0.25:
        return down(k)
    if kind < 0.4:
        return back(k, net, bits)
    pool = chance.choice(((4, 5, 6), (4, 5) + NUMBERS))
    path = [chance.choice(pool) for _ in range(16)]
    length = chance.choice((1, 1, 2, 2, 3, 15, 16, 0, 17))
    few = [chance.choice((0, 0, 0, 1)) for _ in range(2)]
    return tell(k, net, bits, path, count=length, pref=few[0], origin=chance.choice((0, 0, 1, 2, 3)), med=few[1])


class BesidePlain(unittest.TestCase):
    def test_mixed_calls(self):
        for seed in range(40):
            chance = random.Random(seed)
            router, plain = Router(), Plain()
            for step in range(400):
                call = some_call(chance)
                self.assertEqual(do(router, call), do(plain, call), (seed, step, call))
                self.assertEqual(all_of(router), plain.all_of(), (seed, step, call))
                self.take_the_whole_row(chance, router, plain)

    def take_the_whole_row(self, chance, router, plain):
        if chance.random() < 0.02:
            for _ in range(len(plain.row) + 1):
                self.assertEqual(do(router, next_told()), do(plain, next_told()))
            self.assertEqual(all_of(router), plain.all_of())

    def test_mixed_calls_in_a_list(self):
        kinds = set()
        for seed in range(40):
            chance = random.Random(1000 + seed)
            plain = Plain()
            calls = [begin(chance.choice(NUMBERS))] + [some_call(chance) for _ in range(400)]
            expected = []
            for call in calls:
                answer = do(plain, call)
                answered = answer if isinstance(answer, list) else [answer]
                expected += [len(answered)] + answered
                # Only what is taken back has a count of 0.
                kinds.add((call[0], answered[0], answered[3:4] == [0]))
            self.assertEqual(answers(line(*calls)), expected, seed)
        self.assertEqual(kinds & set(KINDS), set(KINDS))


if __name__ == "__main__":
    unittest.main()
