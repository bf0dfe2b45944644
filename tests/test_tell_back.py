import unittest

from tests.helper import (
    GREATEST, INT_ENDS, NETWORKS, NO_NETWORKS, SELF, all_of, back, best_teller, do, do_all, down, due_for, held,
    router_with, row, take_all, tell, told, up,
)

NOT_UP = (1, 7, -1, 8, -8) + INT_ENDS


class Tell(unittest.TestCase):
    def assert_refused(self, call, answer=-1):
        router = router_with(0, 2)
        do_all(router, [tell(0, 0, 0), tell(2, 0, 32, (3, 4))])
        self.refuse(router, call, answer)

    def refuse(self, router, call, answer):
        before = all_of(router)
        self.assertEqual(do(router, call), answer)
        self.assertEqual(all_of(router), before)

    def test_held(self):
        router = router_with(0, 7)
        self.assertEqual(do(router, tell(7, 10 << 24, 8, (5, 6), pref=1, origin=2, med=3)), 0)
        self.assertEqual(held(router), {(7, 10 << 24, 8): ((5, 6), 1, 2, 3)})
        self.assertEqual(row(router), [(0, 10 << 24, 8)])

    def test_greatest_numbers_held(self):
        router = router_with(0)
        path = (GREATEST,) * 16
        self.assertEqual(do(router, tell(0, GREATEST, 32, path, pref=GREATEST, origin=2, med=GREATEST)), 0)
        self.assertEqual(held(router), {(0, GREATEST, 32): (path, GREATEST, 2, GREATEST)})

    def test_networks(self):
        router = router_with(0)
        for net, bits in NETWORKS:
            self.assertEqual(do(router, tell(0, net, bits)), 0)
        self.assertEqual(sorted(held(router)), sorted((0, net, bits) for net, bits in NETWORKS))

    def test_origins_and_counts(self):
        router = router_with(0)
        for origin in (0, 1, 2):
            self.assertEqual(do(router, tell(0, 0, 0, origin=origin)), 0)
        for count in range(1, 17):
            self.assertEqual(do(router, tell(0, 0, 0, range(16), count=count)), 0)
            self.assertEqual(held(router)[(0, 0, 0)][0], tuple(range(count)))

    def test_in_place_of_another(self):
        router = router_with(0, 1)
        do_all(router, [tell(0, 9, 32, (5,), pref=9), tell(1, 9, 32, (6,)), tell(0, 9, 32, (7, 8), med=1)])
        self.assertEqual(held(router), {(0, 9, 32): ((7, 8), 0, 0, 1), (1, 9, 32): ((6,), 0, 0, 0)})

    def test_networks_that_differ_in_bits_alone_are_two(self):
        router = router_with(0)
        do_all(router, [tell(0, 0, 8, (5,)), tell(0, 0, 9, (6,))])
        self.assertEqual(sorted(held(router)), [(0, 0, 8), (0, 0, 9)])

    def test_self_in_the_path(self):
        for path in ((SELF,), (SELF, 5), (5, SELF), (5, SELF, 6), tuple(range(15)) + (SELF,)):
            router = router_with(0, 1)
            self.assertEqual(do_all(router, [tell(0, 9, 32), tell(1, 9, 32, (7,))]), [0, 0])
            self.assertEqual(do(router, tell(0, 9, 32, path)), 0)
            self.assertEqual(list(held(router)), [(1, 9, 32)])
            # It was looked at: 1's route is the best now.
            self.assertEqual(row(router), [(0, 9, 32)])

    def test_self_in_the_path_and_no_route_before(self):
        router = router_with(0, 1)
        self.assertEqual(do(router, tell(0, 9, 32, (SELF,))), 0)
        self.assertEqual(router.networks, {})
        self.assertEqual(row(router), [])

    def test_self_in_the_path_and_no_route_before_is_looked_at_too(self):
        router = router_with(0)
        do_all(router, [tell(0, 9, 32, (55,)), up(1, 55), up(2)])
        self.assertEqual(row(router), [(1, 9, 32), (2, 9, 32)])
        self.assertEqual(do(router, tell(2, 9, 32, (SELF,))), 0)
        self.assertEqual(row(router), [(2, 9, 32)])

    def test_self_only_behind_the_count(self):
        router = router_with(0)
        self.assertEqual(do(router, tell(0, 9, 32, (5, SELF), count=1)), 0)
        self.assertEqual(held(router), {(0, 9, 32): ((5,), 0, 0, 0)})
        self.assertEqual(do(router, tell(0, 9, 32, (5, 6), rest=SELF)), 0)
        self.assertEqual(held(router), {(0, 9, 32): ((5, 6), 0, 0, 0)})

    def test_self_0_is_not_seen_in_the_places_behind_the_count(self):
        router = router_with(0, self_number=0)
        do(router, tell(0, 9, 32, (5,), rest=0))
        self.assertEqual(list(held(router)), [(0, 9, 32)])

    def test_not_up(self):
        for k in NOT_UP:
            self.assert_refused(tell(k, 0, 0))

    def test_no_network(self):
        for net, bits in NO_NETWORKS:
            self.assert_refused(tell(0, net, bits))

    def test_wrong_count(self):
        for count in (0, 17, -1) + INT_ENDS:
            self.assert_refused(tell(0, 0, 0, (5,) * 16, count=count))

    def test_wrong_origin(self):
        for origin in (3, 4, GREATEST):
            self.assert_refused(tell(0, 0, 0, origin=origin))

    def test_wrong_with_self_in_the_path_forgets_nothing(self):
        self.assert_refused(tell(0, 0, 0, (SELF,), origin=3))
        self.assert_refused(tell(0, 0, 0, (SELF,), count=17))
        self.assert_refused(tell(0, 0, 33, (SELF,)))


class Full(unittest.TestCase):
    """At 4095 networks; one more would be the 4096th."""

    def setUp(self):
        self.router = router_with(0, 1)
        self.first = do_all(self.router, [tell(0, net, 32) for net in range(4095)])

    def refuse(self, call, answer):
        before = all_of(self.router)
        self.assertEqual(do(self.router, call), answer)
        self.assertEqual(all_of(self.router), before)

    def test_up_to_4095(self):
        self.assertEqual(self.first, [0] * 4095)

    def test_the_4096th(self):
        self.refuse(tell(0, 4095, 32), -2)
        self.refuse(tell(1, 4095, 32), -2)
        self.refuse(tell(0, 0, 0), -2)

    def test_another_refusal_comes_first(self):
        self.refuse(tell(2, 4095, 32), -1)
        self.refuse(tell(0, 4095, 31), -1)
        self.refuse(tell(0, 4095, 33), -1)
        self.refuse(tell(0, 4095, 32, count=0), -1)
        self.refuse(tell(0, 4095, 32, origin=3), -1)

    def test_networks_that_are_there_already(self):
        self.assertEqual(do_all(self.router, [tell(0, 7, 32, (5, 6)), tell(1, 7, 32, (7,))]), [0, 0])
        self.assertEqual(held(self.router)[(0, 7, 32)][0], (5, 6))
        self.assertEqual(best_teller(self.router, 7, 32), 1)

    def test_self_in_the_path_is_not_refused(self):
        self.assertEqual(do(self.router, tell(1, 4095, 32, (SELF,))), 0)
        self.assertEqual(do(self.router, tell(0, 7, 32, (SELF,))), 0)
        self.assertNotIn((0, 7, 32), held(self.router))

    def test_room_again_after_back(self):
        self.assertEqual(do_all(self.router, [back(0, 7, 32), tell(1, 4095, 32), tell(1, 4096, 32)]), [0, 0, -2])

    def test_room_again_after_self_in_the_path(self):
        calls = [tell(0, 7, 32, (SELF,)), tell(1, 4095, 32), tell(1, 4096, 32)]
        self.assertEqual(do_all(self.router, calls), [0, 0, -2])

    def test_room_again_after_down(self):
        self.assertEqual(do_all(self.router, [down(0), tell(1, 4095, 32)]), [0, 0])
        self.assertEqual(sorted(self.router.networks), [(4095, 32)])

    def test_what_stands_only_as_told_counts(self):
        take_all(self.router)
        self.assertEqual(do(self.router, back(0, 7, 32)), 0)
        self.refuse(tell(0, 4095, 32), -2)
        # That network itself is counted already.
        self.assertEqual(do(self.router, tell(0, 7, 32)), 0)

    def test_what_stands_only_as_told_counts_after_its_teller_is_down(self):
        take_all(self.router)
        self.assertEqual(do(self.router, down(0)), 0)
        self.assertEqual(held(self.router), {})
        self.refuse(tell(1, 4095, 32), -2)

    def test_told_to_one_that_is_down_does_not_count(self):
        take_all(self.router)
        calls = [back(0, 7, 32), down(1), tell(0, 4095, 32), tell(0, 4096, 32)]
        self.assertEqual(do_all(self.router, calls), [0, 0, 0, -2])

    def test_taken_back_does_not_count(self):
        take_all(self.router)
        do(self.router, back(0, 7, 32))
        take_all(self.router)
        self.assertNotIn((1, 7, 32), told(self.router))
        self.assertEqual(do_all(self.router, [tell(0, 4095, 32), tell(0, 4096, 32)]), [0, -2])

    def test_a_network_held_and_told_counts_once(self):
        router = router_with(0, 1, 2)
        for net in range(4094):
            do_all(router, [tell(0, net, 32), tell(1, net, 32)])
        take_all(router)
        self.assertEqual(do_all(router, [tell(0, 4094, 32), tell(0, 4095, 32)]), [0, -2])


class Back(unittest.TestCase):
    def test_a_route(self):
        router = router_with(0, 1)
        do_all(router, [tell(0, 9, 32), tell(1, 9, 32, (6,)), tell(0, 8, 32)])
        self.assertEqual(do(router, back(0, 9, 32)), 0)
        self.assertEqual(sorted(held(router)), [(0, 8, 32), (1, 9, 32)])
        self.assertEqual(best_teller(router, 9, 32), 1)

    def test_each_network(self):
        router = router_with(0)
        do_all(router, [tell(0, net, bits) for net, bits in NETWORKS])
        for net, bits in NETWORKS:
            self.assertEqual(do(router, back(0, net, bits)), 0)
            self.assertNotIn((0, net, bits), held(router))
        self.assertEqual(router.networks, {})

    def test_the_network_is_looked_at(self):
        router = router_with(0, 1, 2)
        do_all(router, [tell(0, 9, 32, (5,)), tell(1, 9, 32, (6,), pref=1)])
        take_all(router)
        do(router, back(1, 9, 32))
        self.assertEqual(row(router), [(0, 9, 32), (1, 9, 32), (2, 9, 32)])
        self.assertEqual(due_for(router, 2, 9, 32), ((SELF, 5), 0))

    def test_no_route(self):
        router = router_with(0, 1)
        do_all(router, [tell(0, 0, 8), tell(1, 0, 9)])
        before = all_of(router)
        self.assertEqual(do_all(router, [back(0, 0, 9), back(1, 0, 8), back(1, 0, 10)]), [0, 0, 0])
        self.assertEqual(all_of(router), before)

    def test_no_route_is_not_looked_at(self):
        router = router_with(0)
        # Looked at, this pair wouldn't wait: there's nothing to tell a neighbour whose as is in the path.
        do_all(router, [tell(0, 9, 32, (55,)), up(1, 55)])
        self.assertEqual(do(router, back(1, 9, 32)), 0)
        self.assertEqual(row(router), [(1, 9, 32)])

    def test_a_second_time(self):
        router = router_with(0)
        do(router, tell(0, 9, 32))
        self.assertEqual(do_all(router, [back(0, 9, 32), back(0, 9, 32)]), [0, 0])

    def test_refused(self):
        router = router_with(0, 2)
        do_all(router, [tell(0, 0, 0), tell(2, 0, 32)])
        before = all_of(router)
        for k in NOT_UP:
            self.assertEqual(do(router, back(k, 0, 0)), -1)
        for net, bits in NO_NETWORKS:
            self.assertEqual(do(router, back(0, net, bits)), -1)
        self.assertEqual(all_of(router), before)


if __name__ == "__main__":
    unittest.main()
