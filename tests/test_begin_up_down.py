import unittest

from pathrouter.core import Router
from tests.helper import (
    GREATEST, INT_ENDS, SELF, all_of, back, begin, do, do_all, down, due_for, held, next_told, router_with, row,
    take_all, tell, told, up,
)

NO_NEIGHBOUR = (-1, 8) + INT_ENDS


class Begin(unittest.TestCase):
    def test_begin_at_the_start(self):
        for number in (0, SELF, GREATEST):
            router = Router()
            self.assertEqual(do(router, begin(number)), 0)
            self.assertEqual(all_of(router), (number, [None] * 8, {}, {}, [], []))

    def test_begin_later_leaves_nothing(self):
        router = router_with(0, 1)
        do_all(router, [tell(0, 0, 0), tell(1, 1, 32)])
        do(router, next_told())
        self.assertNotEqual(told(router), {})
        self.assertNotEqual(row(router), [])
        self.assertEqual(do(router, begin(7)), 0)
        self.assertEqual(all_of(router), (7, [None] * 8, {}, {}, [], []))

    def test_after_a_later_begin_neighbours_can_be_up_again(self):
        router = router_with(0, 1)
        do_all(router, [tell(0, 0, 0), begin()])
        self.assertEqual(do_all(router, [down(0), tell(0, 0, 0), back(0, 0, 0)]), [-1, -1, -1])
        self.assertEqual(do(router, up(0)), 0)
        self.assertEqual(row(router), [])

    def test_the_number_of_the_later_begin_counts(self):
        router = router_with(0, 1, self_number=5)
        do_all(router, [begin(6), up(0), up(1), tell(0, 0, 0, (5,)), tell(0, 1, 32, (6,))])
        self.assertEqual(list(held(router)), [(0, 0, 0)])
        self.assertEqual(due_for(router, 1, 0, 0), ((6, 5), 0))


class Up(unittest.TestCase):
    def test_each_neighbour(self):
        router = router_with()
        for k in (7, 0, 3, 1, 2, 4, 5, 6):
            self.assertEqual(do(router, up(k, k * 3, k * 5)), 0)
        self.assertEqual(all_of(router)[1], [(k, k * 3, k * 5) for k in range(8)])

    def test_greatest_as_and_id(self):
        router = router_with()
        self.assertEqual(do(router, up(7, GREATEST, GREATEST)), 0)
        self.assertEqual(all_of(router)[1][7], (7, GREATEST, GREATEST))

    def test_up_already(self):
        router = router_with(0, 7)
        do(router, tell(0, 0, 0))
        take_all(router)
        before = all_of(router)
        self.assertEqual(do_all(router, [up(0, 9, 9), up(7, 9, 9)]), [-1, -1])
        self.assertEqual(all_of(router), before)

    def test_no_neighbours_number(self):
        router = router_with(0)
        do(router, tell(0, 0, 0))
        before = all_of(router)
        for k in NO_NEIGHBOUR:
            self.assertEqual(do(router, up(k, 1, 1)), -1)
        self.assertEqual(all_of(router), before)

    def test_again_after_down(self):
        router = router_with(3)
        self.assertEqual(do_all(router, [down(3), up(3, 8, 9), up(3, 8, 9)]), [0, 0, -1])
        self.assertEqual(all_of(router)[1][3], (3, 8, 9))

    def test_pairs_in_the_order_of_nets_then_bits(self):
        router = router_with(0)
        networks = [(1 << 31, 1), (0, 32), (256, 24), (0, 0), (1 << 31, 32), (0, 8), (1, 32)]
        do_all(router, [tell(0, net, bits) for net, bits in networks])
        do(router, up(1))
        self.assertEqual(row(router), [(1, net, bits) for net, bits in sorted(networks)])

    def test_pairs_go_behind_those_that_wait(self):
        router = router_with(0, 5)
        do_all(router, [tell(0, 9, 32), tell(0, 4, 32), up(2)])
        self.assertEqual(row(router), [(5, 9, 32), (5, 4, 32), (2, 4, 32), (2, 9, 32)])

    def test_pairs_of_networks_of_several_neighbours_once_each(self):
        router = router_with(0, 1)
        do_all(router, [tell(0, 9, 32), tell(1, 9, 32), tell(1, 8, 32)])
        take_all(router)
        do(router, up(2))
        self.assertEqual(row(router), [(2, 8, 32), (2, 9, 32)])

    def test_a_pair_waits_even_if_there_is_nothing_to_tell(self):
        router = router_with(0)
        do_all(router, [tell(0, 9, 32, (55,)), up(1, 55)])
        self.assertIsNone(due_for(router, 1, 9, 32))
        self.assertEqual(row(router), [(1, 9, 32)])

    def test_no_pair_for_a_network_that_only_stands_as_told(self):
        router = router_with(0, 1)
        do(router, tell(0, 9, 32))
        take_all(router)
        do_all(router, [back(0, 9, 32), up(2)])
        self.assertEqual(row(router), [(1, 9, 32)])

    def test_it_was_told_nothing(self):
        router = router_with(0, 1)
        do(router, tell(0, 9, 32))
        take_all(router)
        do_all(router, [down(1), up(1)])
        self.assertEqual(told(router), {})
        self.assertEqual(row(router), [(1, 9, 32)])


class Down(unittest.TestCase):
    def test_each_neighbour(self):
        router = router_with(*range(8))
        self.assertEqual(do_all(router, [down(k) for k in (7, 0, 3, 1, 2, 4, 5, 6)]), [0] * 8)
        self.assertEqual(all_of(router)[1], [None] * 8)

    def test_only_that_one(self):
        router = router_with(0, 1, 7)
        do(router, down(1))
        self.assertEqual([k for k in range(8) if router.is_up(k)], [0, 7])

    def test_not_up(self):
        router = router_with(0)
        do(router, tell(0, 0, 0))
        before = all_of(router)
        self.assertEqual(do_all(router, [down(1), down(7)]), [-1, -1])
        self.assertEqual(all_of(router), before)

    def test_a_second_time(self):
        router = router_with(0, 7)
        self.assertEqual(do_all(router, [down(7), down(7), down(0), down(0)]), [0, -1, 0, -1])

    def test_no_neighbours_number(self):
        router = router_with(*range(8))
        do(router, tell(7, 0, 0))
        before = all_of(router)
        for k in NO_NEIGHBOUR:
            self.assertEqual(do(router, down(k)), -1)
        self.assertEqual(all_of(router), before)

    def test_its_routes_are_forgotten_and_others_stay(self):
        router = router_with(0, 1)
        do_all(router, [tell(0, 9, 32), tell(1, 9, 32), tell(0, 8, 32), tell(1, 7, 32), down(0)])
        self.assertEqual(sorted(held(router)), [(1, 7, 32), (1, 9, 32)])
        do(router, up(0))
        self.assertEqual(sorted(held(router)), [(1, 7, 32), (1, 9, 32)])

    def test_what_it_was_told_is_forgotten_and_of_others_stays(self):
        router = router_with(0, 1, 2)
        do(router, tell(0, 9, 32))
        take_all(router)
        do(router, down(1))
        self.assertEqual(told(router), {(2, 9, 32): ((SELF, 1), 0)})

    def test_a_network_only_it_was_told_of_stands_no_more(self):
        router = router_with(0, 1)
        do(router, tell(0, 9, 32))
        take_all(router)
        do_all(router, [back(0, 9, 32), down(1)])
        self.assertEqual(router.networks, {})

    def test_its_pairs_wait_no_more_and_others_stay_in_place(self):
        router = router_with(0, 1, 2)
        do_all(router, [tell(0, 9, 32), tell(0, 8, 32), tell(2, 7, 32), down(1)])
        self.assertEqual(row(router), [(2, 9, 32), (2, 8, 32), (0, 7, 32)])

    def test_its_networks_are_looked_at_in_their_order(self):
        router = router_with(0, 1, 2)
        networks = [(9, 32), (1 << 31, 1), (0, 8), (4, 32), (0, 0), (1 << 31, 2)]
        do_all(router, [tell(1, net, bits) for net, bits in networks])
        take_all(router)
        do(router, down(1))
        order = [(0, 0), (0, 8), (4, 32), (9, 32), (1 << 31, 1), (1 << 31, 2)]
        self.assertEqual(row(router), [(k, net, bits) for net, bits in order for k in (0, 2)])

    def test_networks_of_which_it_had_no_route_are_not_looked_at(self):
        router = router_with(0)
        # Looked at, this pair wouldn't wait: there's nothing to tell a neighbour whose as is in the path.
        do_all(router, [tell(0, 9, 32, (55,)), up(1, 55), up(2), down(2)])
        self.assertEqual(row(router), [(1, 9, 32)])

    def test_looked_at_without_the_one_that_is_down(self):
        router = router_with(0, 1)
        do_all(router, [tell(0, 9, 32), tell(1, 9, 32, pref=1)])
        take_all(router)
        do(router, down(1))
        self.assertEqual(row(router), [(0, 9, 32)])
        self.assertIsNone(due_for(router, 0, 9, 32))

    def test_the_next_best_is_told_in_its_place(self):
        router = router_with(0, 1, 2)
        do_all(router, [tell(0, 9, 32, (5,)), tell(1, 9, 32, (6,), pref=1)])
        take_all(router)
        do(router, down(1))
        self.assertEqual(row(router), [(0, 9, 32), (2, 9, 32)])
        self.assertEqual(due_for(router, 2, 9, 32), ((SELF, 5), 0))

    def test_a_pair_that_has_nothing_to_tell_any_more_does_not_wait(self):
        router = router_with(0, 1)
        do_all(router, [tell(0, 9, 32), down(0)])
        self.assertEqual(row(router), [])
        self.assertEqual(router.networks, {})


if __name__ == "__main__":
    unittest.main()
