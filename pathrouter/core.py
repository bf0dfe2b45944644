"""The router: its neighbours, what stands of each network, and the row of pairs that wait."""

from pathrouter.routes import Neighbour, Route, best_of, should_be_told

NEIGHBOURS = 8
ADDRESS_BITS = 32
LONGEST_PATH = 16
GREATEST_ORIGIN = 2
TOO_MANY_NETWORKS = 4096

DONE = 0
REFUSED = -1
FULL = -2
# Answered in the place of a neighbour's number.
NOBODY = 8


def first_bits(number, bits):
    """The number with 0 for all its bits behind the first ones."""
    return number - number % (1 << (ADDRESS_BITS - bits))


def is_network(net, bits):
    return 0 <= bits <= ADDRESS_BITS and first_bits(net, bits) == net


def is_route(net, bits, count, origin):
    if not is_network(net, bits):
        return False
    return 1 <= count <= LONGEST_PATH and 0 <= origin <= GREATEST_ORIGIN


def route_numbers(network, path, pref, origin, med):
    """A route as it is answered."""
    rest = [0] * (LONGEST_PATH - len(path))
    return [network[0], network[1], len(path), pref, origin, med] + list(path) + rest


def told_numbers(network, what):
    """What a neighbour is told, as it is answered: pref and med are not passed on."""
    if what is None:
        return route_numbers(network, (), 0, 0, 0)
    return route_numbers(network, what[0], 0, what[1], 0)


class Entry:
    """What stands of one network: by neighbour the route it told, and what it was told last."""

    def __init__(self):
        self.routes = {}
        # A neighbour that was told nothing, or that it is taken back, has no place here.
        self.told = {}

    def is_empty(self):
        return len(self.routes) == 0 and len(self.told) == 0

    def best_route(self):
        return best_of([self.routes[k] for k in sorted(self.routes)])


class Router:
    """One method for each call, and what they share. A network is the pair (net, bits)."""

    def __init__(self):
        self.begin(0)

    def begin(self, self_number):
        self.self_number = self_number
        self.neighbours = [None] * NEIGHBOURS
        # Only networks whose entry is not empty are here, so that their number is the one that is limited.
        self.networks = {}
        # A dict keeps the order in which its keys came, and holds each pair (k, network) once.
        self.waiting = {}
        return DONE

    def up(self, k, as_number, ident):
        if not 0 <= k < NEIGHBOURS or self.is_up(k):
            return REFUSED
        self.neighbours[k] = Neighbour(k, as_number, ident)
        for network in sorted(self.networks_with_route()):
            self.waiting[(k, network)] = True
        return DONE

    def down(self, k):
        if not self.is_up(k):
            return REFUSED
        self.neighbours[k] = None
        self.forget_pairs(k)
        for network in self.forget_all(k):
            self.look_at(network)
        return DONE

    def tell(self, k, net, bits, count, pref, origin, med, path):
        if not self.is_up(k) or not is_route(net, bits, count, origin):
            return REFUSED
        network = (net, bits)
        route = Route(self.neighbours[k], tuple(path[:count]), pref, origin, med)
        if self.self_number in route.path:
            self.forget(k, network)
        elif self.has_room_for(network):
            self.hold(k, network, route)
        else:
            return FULL
        self.look_at(network)
        return DONE

    def back(self, k, net, bits):
        if not self.is_up(k) or not is_network(net, bits):
            return REFUSED
        network = (net, bits)
        if k in self.entry_of(network).routes:
            self.forget(k, network)
            self.look_at(network)
        return DONE

    def next_told(self):
        """The neighbour and the numbers of what it is told; NOBODY alone if no pair waits any more."""
        for pair in list(self.waiting):
            self.waiting.pop(pair)
            k = pair[0]
            network = pair[1]
            # Up lets pairs wait without asking whether there is something to tell.
            due = self.due_to(k, network)
            if due != self.entry_of(network).told.get(k):
                self.keep_told(k, network, due)
                return [k] + told_numbers(network, due)
        return [NOBODY]

    def best(self, net, bits):
        """The neighbour and the numbers of its route, or NOBODY or REFUSED alone."""
        if not is_network(net, bits):
            return [REFUSED]
        network = (net, bits)
        route = self.entry_of(network).best_route()
        if route is None:
            return [NOBODY]
        return [route.teller.number] + route_numbers(network, route.path, route.pref, route.origin, route.med)

    def send(self, address):
        for bits in range(ADDRESS_BITS, -1, -1):
            route = self.entry_of((first_bits(address, bits), bits)).best_route()
            if route is not None:
                return route.teller.number
        return NOBODY

    def count_networks(self):
        # Not all that are known: some have no route and only stand as what a neighbour was told.
        return len(self.networks_with_route())

    def is_up(self, k):
        return 0 <= k < NEIGHBOURS and self.neighbours[k] is not None

    def entry_of(self, network):
        if network in self.networks:
            return self.networks[network]
        return Entry()

    def networks_with_route(self):
        return [network for network in self.networks if len(self.networks[network].routes) > 0]

    def has_room_for(self, network):
        then_known = len(self.networks)
        if network not in self.networks:
            then_known = then_known + 1
        return then_known < TOO_MANY_NETWORKS

    def hold(self, k, network, route):
        entry = self.entry_of(network)
        entry.routes[k] = route
        self.networks[network] = entry

    def forget(self, k, network):
        self.entry_of(network).routes.pop(k, None)
        self.drop_if_empty(network)

    def forget_all(self, k):
        """Forgets k's routes and what it was told; gives the networks it had a route of, in their order."""
        order = sorted(self.networks)
        had_route = []
        for network in order:
            entry = self.networks[network]
            if k in entry.routes:
                had_route.append(network)
            entry.told.pop(k, None)
            self.forget(k, network)
        return had_route

    def drop_if_empty(self, network):
        if self.entry_of(network).is_empty():
            self.networks.pop(network, None)

    def forget_pairs(self, k):
        for pair in list(self.waiting):
            if pair[0] == k:
                self.waiting.pop(pair)

    def due_to(self, k, network):
        best = self.entry_of(network).best_route()
        return should_be_told(best, self.neighbours[k], self.self_number)

    def keep_told(self, k, network, what):
        entry = self.entry_of(network)
        if what is None:
            entry.told.pop(k, None)
            self.drop_if_empty(network)
        else:
            entry.told[k] = what

    def look_at(self, network):
        entry = self.entry_of(network)
        best = entry.best_route()
        for k, neighbour in enumerate(self.neighbours):
            if neighbour is not None:
                due = should_be_told(best, neighbour, self.self_number)
                self.wait_if_due((k, network), due, entry.told.get(k))

    def wait_if_due(self, pair, due, told):
        if due == told:
            self.waiting.pop(pair, None)
        else:
            # A key that is there already stays in its place.
            self.waiting[pair] = True
