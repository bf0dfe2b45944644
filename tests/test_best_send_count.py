import unittest

from tests.helper import (
    GREATEST, NETWORKS, NO_NETWORKS, SELF, all_of, back, begin, best, count, do, do_all, down, next_told, route,
    router_with, send, take_all, tell, up,
)


class BestCall(unittest.TestCase):
    def test_a_route_as_it_was_told(self):
        router = router_with(5)
        do(router, tell(5, 10 << 24, 8, (5, 6, 7), pref=11, origin=2, med=12))
        expected = [5, 10 << 24, 8, 3, 11, 2, 12, 5, 6, 7] + [0] * 13
        self.assertEqual(do(router, best(10 << 24, 8)), expected)

    def test_places_behind_the_count_are_0(self):
        router = router_with(0)
        do(router, tell(0, 9, 32, (5, 6), rest=99))
        self.assertEqual(do(router, best(9, 32)), [0, 9, 32, 2, 0, 0, 0, 5, 6] + [0] * 14)
        do(router, tell(0, 9, 32, range(50, 66), count=1))
        self.assertEqual(do(router, best(9, 32)), [0, 9, 32, 1, 0, 0, 0, 50] + [0] * 15)

    def test_each_length_of_path(self):
        router = router_with(7)
        for length in range(1, 17):
            path = range(50, 50 + length)
            do(router, tell(7, 9, 32, path))
            self.assertEqual(do(router, best(9, 32)), route(7, 9, 32, path))

    def test_greatest_numbers(self):
        router = router_with(7)
        do(router, tell(7, GREATEST, 32, (GREATEST,) * 16, pref=GREATEST, origin=2, med=GREATEST))
        expected = [7, GREATEST, 32, 16, GREATEST, 2, GREATEST] + [GREATEST] * 16
        self.assertEqual(do(router, best(GREATEST, 32)), expected)

    def test_the_best_of_several(self):
        router = router_with(0, 1, 2)
        do_all(router, [tell(0, 9, 32, (5,)), tell(1, 9, 32, (6, 7), pref=1, med=4), tell(2, 9, 32, (8,), origin=1)])
        self.assertEqual(do(router, best(9, 32)), route(1, 9, 32, (6, 7), pref=1, med=4))
        do(router, back(1, 9, 32))
        self.assertEqual(do(router, best(9, 32)), route(0, 9, 32, (5,)))
        do(router, down(0))
        self.assertEqual(do(router, best(9, 32)), route(2, 9, 32, (8,), origin=1))

    def test_the_last_one_told(self):
        router = router_with(0)
        do_all(router, [tell(0, 9, 32, (5,), pref=9), tell(0, 9, 32, (6, 7), med=3)])
        self.assertEqual(do(router, best(9, 32)), route(0, 9, 32, (6, 7), med=3))

    def test_none(self):
        router = router_with(0, 1)
        self.assertEqual(do(router, best(9, 32)), [8])
        do(router, tell(0, 0, 8))
        # Neither a narrower nor a wider network, though this one holds it or is held by it.
        self.assertEqual(do_all(router, [best(0, 7), best(0, 9), best(0, 32), best(0, 0)]), [[8]] * 4)
        self.assertEqual(do(router, best(1 << 24, 8)), [8])

    def test_none_any_more(self):
        router = router_with(0, 1)
        for end in (back(0, 9, 32), tell(0, 9, 32, (SELF,)), down(0), begin()):
            do_all(router, [up(0), up(1), tell(0, 9, 32)])
            # What was told of it last still stands.
            take_all(router)
            self.assertEqual(do(router, end), 0)
            self.assertEqual(do(router, best(9, 32)), [8])

    def test_none_without_neighbours(self):
        self.assertEqual(do(router_with(), best(0, 0)), [8])

    def test_each_network(self):
        router = router_with(0)
        for net, bits in NETWORKS:
            self.assertEqual(do(router, best(net, bits)), [8])
            do(router, tell(0, net, bits, (net, bits)))
        for net, bits in NETWORKS:
            self.assertEqual(do(router, best(net, bits)), route(0, net, bits, (net, bits)))

    def test_widest_and_narrowest(self):
        router = router_with(0, 1)
        do_all(router, [tell(0, 0, 0, (5,)), tell(1, 0, 32, (6,))])
        self.assertEqual(do(router, best(0, 0)), route(0, 0, 0, (5,)))
        self.assertEqual(do(router, best(0, 32)), route(1, 0, 32, (6,)))

    def test_no_network(self):
        router = router_with(0)
        do_all(router, [tell(0, 0, 0), tell(0, 10 << 24, 8), tell(0, 0, 32), tell(0, GREATEST, 32)])
        before = all_of(router)
        for net, bits in NO_NETWORKS:
            self.assertEqual(do(router, best(net, bits)), [-1], (net, bits))
        self.assertEqual(all_of(router), before)

    def test_nothing_changes(self):
        router = router_with(0, 1)
        do_all(router, [tell(0, 9, 32), tell(1, 8, 32), next_told()])
        before = all_of(router)
        do_all(router, [best(9, 32), best(7, 32), send(9), send(7), count()])
        self.assertEqual(all_of(router), before)


class Send(unittest.TestCase):
    def test_nowhere(self):
        self.assertEqual(do_all(router_with(), [send(0), send(GREATEST)]), [8, 8])
        router = router_with(0, 1)
        do_all(router, [tell(0, 10 << 24, 8), tell(1, 5, 32)])
        self.assertEqual(do_all(router, [send(0), send(11 << 24), send(4), send(6), send(GREATEST)]), [8] * 5)

    def test_the_ends_of_a_network(self):
        router = router_with(3)
        do(router, tell(3, 10 << 24, 8))
        for address in (10 << 24, (10 << 24) + 1, (11 << 24) - 1):
            self.assertEqual(do(router, send(address)), 3)
        for address in ((10 << 24) - 1, 11 << 24, 10, (10 << 24) + (1 << 31)):
            self.assertEqual(do(router, send(address)), 8)

    def test_each_number_of_bits(self):
        net = 0xA5C3F00F
        for bits in range(33):
            router = router_with(7)
            behind = 1 << (32 - bits)
            first = net // behind * behind
            do(router, tell(7, first, bits))
            self.assertEqual(do_all(router, [send(first), send(net), send(first + behind - 1)]), [7] * 3)
            # One bit that counts is another.
            for place in range(bits):
                self.assertEqual(do(router, send(net ^ (1 << (31 - place)))), 8)

    def test_all_addresses(self):
        router = router_with(0)
        do(router, tell(0, 0, 0))
        self.assertEqual(do_all(router, [send(0), send(1 << 31), send(GREATEST)]), [0, 0, 0])

    def test_one_address(self):
        router = router_with(0, 1)
        do_all(router, [tell(0, 0, 32), tell(1, GREATEST, 32)])
        self.assertEqual(do_all(router, [send(0), send(1), send(GREATEST - 1), send(GREATEST)]), [0, 8, 8, 1])

    def test_the_narrowest_whatever_the_order(self):
        networks = [(0, 0), (0, 1), (0, 8), (0, 24), (0, 31), (0, 32)]
        addresses = [1 << 31, 1 << 30, 1 << 20, 9, 1, 0]
        for order in (list(range(6)), list(range(5, -1, -1)), [3, 0, 5, 1, 4, 2]):
            router = router_with(*range(6))
            # A better route to a wider network doesn't count.
            do_all(router, [tell(k, *networks[k], pref=9 - k) for k in order])
            self.assertEqual(do_all(router, [send(address) for address in addresses]), [0, 1, 2, 3, 4, 5])

    def test_the_narrowest_of_networks_that_begin_otherwise(self):
        router = router_with(0, 1, 2)
        do_all(router, [tell(0, 0, 0), tell(1, 1 << 31, 1), tell(2, 3 << 30, 2)])
        self.assertEqual(do_all(router, [send(0), send(1 << 31), send(3 << 30), send(GREATEST)]), [0, 1, 2, 2])

    def test_to_the_neighbour_of_the_best_route(self):
        router = router_with(0, 1, 2)
        do_all(router, [tell(0, 0, 8), tell(1, 0, 8, pref=2), tell(2, 0, 8, pref=1)])
        self.assertEqual(do(router, send(9)), 1)
        do(router, tell(1, 0, 8))
        self.assertEqual(do(router, send(9)), 2)

    def test_a_network_whose_routes_are_gone_does_not_count(self):
        router = router_with(0, 1, 2)
        do_all(router, [tell(0, 0, 0), tell(1, 0, 8), tell(2, 0, 32)])
        # All of them were told of, and go on standing as what was told last.
        take_all(router)
        self.assertEqual(do(router, send(0)), 2)
        self.assertEqual(do_all(router, [down(2), send(0)]), [0, 1])
        self.assertEqual(do_all(router, [back(1, 0, 8), send(0)]), [0, 0])
        self.assertEqual(do_all(router, [tell(0, 0, 0, (SELF,)), send(0)]), [0, 8])

    def test_begin_leaves_none(self):
        router = router_with(0)
        self.assertEqual(do_all(router, [tell(0, 0, 0), begin(), send(0), up(0), send(0)]), [0, 0, 8, 0, 8])


class Count(unittest.TestCase):
    def test_none(self):
        self.assertEqual(do(router_with(), count()), 0)
        self.assertEqual(do(router_with(*range(8)), count()), 0)

    def test_networks_not_routes(self):
        router = router_with(0, 1, 2)
        for call, counted in ((tell(0, 9, 32), 1), (tell(1, 9, 32), 1), (tell(0, 9, 32, (5,)), 1), (tell(2, 8, 32), 2)):
            self.assertEqual(do_all(router, [call, count()]), [0, counted])

    def test_networks_that_differ_in_bits_alone(self):
        router = router_with(0)
        do_all(router, [tell(0, 0, bits) for bits in range(33)])
        self.assertEqual(do(router, count()), 33)

    def test_a_network_with_another_route_left(self):
        router = router_with(0, 1)
        do_all(router, [tell(0, 9, 32), tell(1, 9, 32)])
        for call, counted in ((back(0, 9, 32), 1), (back(1, 9, 32), 0), (back(1, 9, 32), 0)):
            self.assertEqual(do_all(router, [call, count()]), [0, counted])

    def test_what_stands_only_as_told_does_not_count(self):
        router = router_with(0, 1)
        do_all(router, [tell(0, 9, 32), tell(0, 8, 32)])
        take_all(router)
        self.assertEqual(do_all(router, [back(0, 9, 32), count(), next_told(), count()])[1::2], [1, 1])

    def test_a_route_that_nobody_is_told_counts(self):
        router = router_with(0, 1)
        do_all(router, [tell(0, 9, 32, range(16)), tell(1, 8, 32, (200,))])
        self.assertEqual(do(router, count()), 2)

    def test_down_and_self_in_the_path(self):
        router = router_with(0, 1)
        do_all(router, [tell(0, 9, 32), tell(0, 8, 32), tell(1, 8, 32), tell(1, 7, 32)])
        self.assertEqual(do_all(router, [count(), tell(1, 7, 32, (SELF,)), count(), down(0), count()])[::2], [3, 2, 1])
        self.assertEqual(do_all(router, [down(1), count()]), [0, 0])

    def test_refused_does_not_count(self):
        router = router_with(0)
        do_all(router, [tell(0, 9, 32), tell(1, 8, 32), tell(0, 1, 31), tell(0, 7, 32, count=0)])
        self.assertEqual(do(router, count()), 1)

    def test_begin_leaves_none(self):
        router = router_with(0)
        self.assertEqual(do_all(router, [tell(0, 9, 32), count(), begin(), count()]), [0, 1, 0, 0])

    def test_many(self):
        router = router_with(0)
        do_all(router, [tell(0, net, 32) for net in range(4095)])
        self.assertEqual(do(router, count()), 4095)
        self.assertEqual(do_all(router, [tell(0, 4095, 32), count()]), [-2, 4095])


if __name__ == "__main__":
    unittest.main()
