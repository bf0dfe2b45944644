import itertools
import unittest

from tests.helper import GREATEST, best_teller, do, do_all, router_with, tell, up


def best_among(routes):
    """Whose the best is; routes are (k, as, id, what is told), each told of one network in the order given."""
    router = router_with()
    do_all(router, [up(k, as_number, ident) for k, as_number, ident, told in routes])
    do_all(router, [tell(k, 9, 32, **told) for k, as_number, ident, told in routes])
    return best_teller(router, 9, 32)


class Best(unittest.TestCase):
    def assert_best(self, winner, routes):
        """Whatever the order in which they are told: only the neighbours' own order may count."""
        for order in itertools.permutations(routes):
            self.assertEqual(best_among(order), winner)

    def assert_beats(self, better, worse):
        """By what is told, though all that comes behind speaks for the other, and for both numbers."""
        for one, other in ((0, 1), (1, 0), (2, 7), (7, 2)):
            self.assert_best(one, [(one, 50, 50, better), (other, 40, 40, worse)])

    def test_none(self):
        self.assertIsNone(best_teller(router_with(0), 9, 32))

    def test_one(self):
        self.assert_best(4, [(4, 1, 1, {})])

    def test_1_greater_pref(self):
        worse = {"path": (1,), "origin": 0, "med": 0}
        self.assert_beats({"pref": 2, "path": (1, 2), "origin": 2, "med": 9}, dict(worse, pref=1))
        self.assert_beats({"pref": GREATEST, "path": (1, 2), "origin": 2, "med": 9}, dict(worse, pref=GREATEST - 1))

    def test_2_shorter_path(self):
        self.assert_beats({"path": (1,), "origin": 2, "med": 9}, {"path": (1, 2)})
        self.assert_beats({"path": range(15), "origin": 2, "med": 9}, {"path": range(16)})

    def test_2_only_numbers_that_count(self):
        self.assert_beats({"path": (1, 2), "count": 1, "origin": 2}, {"path": (1, 2, 3), "count": 2})
        self.assert_beats({"path": (1, 2, 3, 4), "count": 1, "origin": 2}, {"path": (1, 2)})

    def test_3_lesser_origin(self):
        self.assert_beats({"origin": 0, "med": 9}, {"origin": 1})
        self.assert_beats({"origin": 1, "med": 9}, {"origin": 2})

    def test_4_lesser_med_if_paths_begin_alike(self):
        self.assert_beats({"path": (1, 2), "med": 3}, {"path": (1, 3), "med": 4})
        self.assert_beats({"path": (1, 2), "med": GREATEST - 1}, {"path": (1, 2), "med": GREATEST})

    def test_4_med_does_not_count_if_paths_begin_otherwise(self):
        self.assert_best(0, [(0, 40, 0, {"path": (1, 2), "med": 9}), (1, 50, 0, {"path": (3, 2), "med": 0})])
        self.assert_best(1, [(0, 50, 0, {"path": (1, 2), "med": 0}), (1, 40, 0, {"path": (3, 2), "med": 9})])

    def test_5_lesser_as(self):
        self.assert_best(0, [(0, 40, 9, {}), (1, 50, 8, {})])
        self.assert_best(1, [(0, 50, 8, {}), (1, 40, 9, {})])
        self.assert_best(1, [(0, GREATEST, 0, {}), (1, GREATEST - 1, GREATEST, {})])

    def test_6_lesser_id(self):
        self.assert_best(0, [(0, 50, 8, {}), (1, 50, 9, {})])
        self.assert_best(1, [(0, 50, 9, {}), (1, 50, 8, {})])
        self.assert_best(7, [(0, 50, GREATEST, {}), (7, 50, GREATEST - 1, {})])

    def test_7_lesser_number(self):
        self.assert_best(0, [(0, 50, 9, {}), (1, 50, 9, {})])
        self.assert_best(3, [(5, 50, 9, {}), (3, 50, 9, {}), (7, 50, 9, {})])

    def test_the_order_of_neighbours_decides_where_meds_make_a_ring(self):
        # a beats b by as, b beats c by as, c beats a by med: whoever comes last beats the better of the two before.
        a = (40, 0, {"path": (1,), "med": 9})
        b = (50, 0, {"path": (2,), "med": 0})
        c = (60, 0, {"path": (1,), "med": 1})
        for ring in itertools.permutations((a, b, c)):
            self.assert_best(6, [(k,) + route for k, route in zip((0, 3, 6), ring)])

    def test_a_route_in_place_of_another_is_compared_as_it_is_now(self):
        router = router_with(0, 1)
        do_all(router, [tell(0, 9, 32, pref=5), tell(1, 9, 32, pref=4)])
        self.assertEqual(best_teller(router, 9, 32), 0)
        do(router, tell(0, 9, 32, pref=3))
        self.assertEqual(best_teller(router, 9, 32), 1)

    def test_each_network_by_itself(self):
        router = router_with(0, 1)
        do_all(router, [tell(0, 0, 8, pref=1), tell(1, 0, 9, pref=2), tell(1, 0, 8)])
        self.assertEqual(best_teller(router, 0, 8), 0)
        self.assertEqual(best_teller(router, 0, 9), 1)


if __name__ == "__main__":
    unittest.main()
