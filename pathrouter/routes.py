"""Routes, which of them is the best, and what a neighbour should be told of it."""

LONGEST_PASSED_ON = 15


class Neighbour:
    """A neighbour that is up."""

    def __init__(self, number, as_number, ident):
        self.number = number
        self.as_number = as_number
        self.ident = ident


class Route:
    """A way to a network, as the neighbour `teller` told it; path has only the numbers that count."""

    def __init__(self, teller, path, pref, origin, med):
        self.teller = teller
        self.path = path
        self.pref = pref
        self.origin = origin
        self.med = med


def teller_rank(route):
    return (route.teller.as_number, route.teller.ident, route.teller.number)


def is_better(route, other):
    if route.pref != other.pref:
        return route.pref > other.pref
    if len(route.path) != len(other.path):
        return len(route.path) < len(other.path)
    if route.origin != other.origin:
        return route.origin < other.origin
    if route.path[0] == other.path[0] and route.med != other.med:
        return route.med < other.med
    return teller_rank(route) < teller_rank(other)


def best_of(routes):
    """The best of the routes, handed in by their neighbours from 0 on; None if there are none."""
    # Meds are compared between some routes only, so there is no order to sort by: the walk itself decides.
    best = None
    for route in routes:
        if best is None or is_better(route, best):
            best = route
    return best


def should_be_told(best, neighbour, self_number):
    """A path and an origin; None stands for taken back, and for nothing told so far."""
    if best is None or best.teller.number == neighbour.number:
        return None
    if neighbour.as_number in best.path or len(best.path) > LONGEST_PASSED_ON:
        return None
    return ((self_number,) + best.path, best.origin)
