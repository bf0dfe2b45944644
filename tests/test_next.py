import unittest

from tests.helper import (
    GREATEST, SELF, all_of, back, begin, do, do_all, down, next_told, route, router_with, row, take_all, tell, told, up,
)


class Next(unittest.TestCase):
    def test_none_waits(self):
        self.assertEqual(do(router_with(), next_told()), [8])
        router = router_with(*range(8))
        self.assertEqual(do_all(router, [next_told(), next_told()]), [[8], [8]])

    def test_the_only_neighbour_is_told_nothing_of_its_own(self):
        router = router_with(0)
        self.assertEqual(do_all(router, [tell(0, 9, 32), next_told()]), [0, [8]])

    def test_a_route(self):
        router = router_with(3, 5)
        do(router, tell(3, 10 << 24, 8, (5, 6, 7), pref=11, origin=2, med=12, rest=99))
        # Pref and med are not passed on, and the places behind the count are 0.
        expected = [5, 10 << 24, 8, 4, 0, 2, 0, SELF, 5, 6, 7] + [0] * 12
        self.assertEqual(do(router, next_told()), expected)
        self.assertEqual(do(router, next_told()), [8])

    def test_each_origin(self):
        router = router_with(0, 1)
        for origin in (1, 2, 0):
            self.assertEqual(do(router, tell(0, 9, 32, (5,), origin=origin)), 0)
            self.assertEqual(take_all(router), [route(1, 9, 32, (SELF, 5), origin=origin)])

    def test_shortest_and_longest_path(self):
        router = router_with(0, 7)
        path = tuple(range(1, 16))
        do_all(router, [tell(0, 0, 0, (5,)), tell(0, GREATEST, 32, path)])
        self.assertEqual(take_all(router), [route(7, 0, 0, (SELF, 5)), route(7, GREATEST, 32, (SELF,) + path)])

    def test_path_of_16_numbers_is_not_told(self):
        router = router_with(0, 1)
        self.assertEqual(do_all(router, [tell(0, 9, 32, range(16)), next_told()]), [0, [8]])

    def test_path_of_16_numbers_takes_back_what_was_told(self):
        router = router_with(0, 1)
        do_all(router, [tell(0, 9, 32), next_told(), tell(0, 9, 32, range(16))])
        self.assertEqual(take_all(router), [route(1, 9, 32, ())])

    def test_greatest_numbers(self):
        router = router_with(0, 1, self_number=GREATEST)
        do(router, tell(0, GREATEST, 32, (GREATEST - 1,) * 15, pref=GREATEST, origin=2, med=GREATEST))
        expected = [1, GREATEST, 32, 16, 0, 2, 0, GREATEST] + [GREATEST - 1] * 15
        self.assertEqual(do(router, next_told()), expected)

    def test_self_0_counts_in_the_path(self):
        router = router_with(0, 1, self_number=0)
        do(router, tell(0, 9, 32, (5,)))
        self.assertEqual(do(router, next_told()), [1, 9, 32, 2, 0, 0, 0, 0, 5] + [0] * 14)

    def test_taken_back(self):
        router = router_with(0, 1)
        do_all(router, [tell(0, 10 << 24, 8, (5, 6), pref=3, origin=2, med=4), next_told(), back(0, 10 << 24, 8)])
        self.assertEqual(do(router, next_told()), [1, 10 << 24, 8] + [0] * 20)
        self.assertEqual(do(router, next_told()), [8])
        self.assertEqual(router.networks, {})

    def test_taken_back_when_the_teller_is_down(self):
        router = router_with(0, 1, 2)
        do_all(router, [tell(0, 9, 32), next_told(), down(0)])
        # 2 was not told of it yet.
        self.assertEqual(take_all(router), [route(1, 9, 32, ())])

    def test_taken_back_from_the_one_that_tells_the_best_now(self):
        router = router_with(0, 1, 2)
        do_all(router, [tell(0, 9, 32, (5,)), next_told(), next_told(), tell(1, 9, 32, (6,), pref=1)])
        expected = [route(0, 9, 32, (SELF, 6)), route(1, 9, 32, ()), route(2, 9, 32, (SELF, 6))]
        self.assertEqual(take_all(router), expected)

    def test_taken_back_from_one_whose_as_is_in_the_path_now(self):
        router = router_with(0, 1)
        do_all(router, [tell(0, 9, 32, (5,)), next_told(), tell(0, 9, 32, (5, 201))])
        self.assertEqual(take_all(router), [route(1, 9, 32, ())])

    def test_taken_back_by_a_path_with_self(self):
        router = router_with(0, 1)
        do_all(router, [tell(0, 9, 32, (5,)), next_told(), tell(0, 9, 32, (5, SELF))])
        self.assertEqual(take_all(router), [route(1, 9, 32, ())])

    def test_told_again_after_taken_back(self):
        router = router_with(0, 1)
        calls = [tell(0, 9, 32), next_told(), back(0, 9, 32), next_told(), tell(0, 9, 32), next_told(), next_told()]
        expected = [0, route(1, 9, 32, (SELF, 1)), 0, route(1, 9, 32, ()), 0, route(1, 9, 32, (SELF, 1)), [8]]
        self.assertEqual(do_all(router, calls), expected)

    def test_a_change_is_told_and_the_same_is_not(self):
        router = router_with(0, 1)
        do_all(router, [tell(0, 9, 32, (5,)), next_told()])
        do(router, tell(0, 9, 32, (5,), pref=1, med=1))
        self.assertEqual(take_all(router), [])
        do(router, tell(0, 9, 32, (5, 6)))
        self.assertEqual(take_all(router), [route(1, 9, 32, (SELF, 5, 6))])
        do(router, tell(0, 9, 32, (5, 6), origin=1))
        self.assertEqual(take_all(router), [route(1, 9, 32, (SELF, 5, 6), origin=1)])

    def test_it_is_what_was_told_last(self):
        router = router_with(0, 1, 2)
        do_all(router, [tell(0, 9, 32, (5,), origin=1), next_told()])
        self.assertEqual(told(router), {(1, 9, 32): ((SELF, 5), 1)})
        do(router, next_told())
        self.assertEqual(told(router), {(1, 9, 32): ((SELF, 5), 1), (2, 9, 32): ((SELF, 5), 1)})
        do_all(router, [back(0, 9, 32), next_told()])
        self.assertEqual(told(router), {(2, 9, 32): ((SELF, 5), 1)})

    def test_what_holds_when_it_is_taken_is_told(self):
        router = router_with(0, 1, 2)
        do_all(router, [tell(0, 9, 32, (5,)), tell(0, 9, 32, (6, 7), origin=2)])
        self.assertEqual(take_all(router), [route(k, 9, 32, (SELF, 6, 7), origin=2) for k in (1, 2)])

    def test_nothing_else_changes(self):
        router = router_with(0, 1, 2)
        do_all(router, [tell(0, 9, 32, (5,)), tell(2, 8, 32, (6,))])
        before = all_of(router)
        do(router, next_told())
        after = all_of(router)
        self.assertEqual((after[:3], after[5]), (before[:3], before[5]))
        self.assertEqual(after[4], before[4][1:])


class Row(unittest.TestCase):
    """The order in which next goes through the row, and what it leaves out."""

    def order(self, router):
        return [tuple(answer[:3]) for answer in take_all(router)]

    def test_the_order_of_the_row(self):
        router = router_with(0, 1, 2)
        do_all(router, [tell(2, 9, 32), tell(1, 3, 32), tell(0, 7, 32)])
        expected = [(0, 9, 32), (1, 9, 32), (0, 3, 32), (2, 3, 32), (1, 7, 32), (2, 7, 32)]
        self.assertEqual(self.order(router), expected)

    def test_one_at_a_time_and_new_ones_behind(self):
        router = router_with(0, 1, 2)
        do_all(router, [tell(0, 9, 32), next_told(), tell(0, 4, 32)])
        self.assertEqual(self.order(router), [(2, 9, 32), (1, 4, 32), (2, 4, 32)])

    def test_a_pair_that_waits_keeps_its_place(self):
        router = router_with(0, 1)
        do_all(router, [tell(0, 9, 32, (5,)), tell(0, 8, 32), tell(0, 9, 32, (6,))])
        self.assertEqual(take_all(router), [route(1, 9, 32, (SELF, 6)), route(1, 8, 32, (SELF, 1))])

    def test_a_pair_that_was_taken_goes_to_the_end(self):
        router = router_with(0, 1)
        do_all(router, [tell(0, 9, 32, (5,)), tell(0, 8, 32), next_told(), tell(0, 9, 32, (6,))])
        self.assertEqual(self.order(router), [(1, 8, 32), (1, 9, 32)])

    def test_a_pair_that_left_the_row_comes_back_to_the_end(self):
        router = router_with(0, 1)
        do_all(router, [tell(0, 9, 32), tell(0, 8, 32), back(0, 9, 32), tell(0, 9, 32)])
        self.assertEqual(self.order(router), [(1, 8, 32), (1, 9, 32)])

    def test_all_networks_for_one_that_comes_up_in_their_order(self):
        router = router_with(0)
        networks = [(1 << 31, 1), (0, 32), (256, 24), (0, 0), (1 << 31, 32), (0, 8), (1, 32)]
        do_all(router, [tell(0, net, bits) for net, bits in networks])
        do(router, up(1))
        self.assertEqual(self.order(router), [(1, net, bits) for net, bits in sorted(networks)])

    def test_looked_at_in_order_when_a_teller_is_down(self):
        router = router_with(0, 1, 2)
        networks = [(9, 32), (1 << 31, 1), (0, 8), (4, 32), (0, 0)]
        do_all(router, [tell(1, net, bits) for net, bits in networks])
        take_all(router)
        do(router, down(1))
        expected = [route(k, net, bits, ()) for net, bits in sorted(networks) for k in (0, 2)]
        self.assertEqual(take_all(router), expected)

    def test_one_that_was_down_is_told_all_again(self):
        router = router_with(0, 1)
        do_all(router, [tell(0, 9, 32, (5,)), tell(0, 8, 32, (6,))])
        take_all(router)
        do_all(router, [down(1), up(1, 77)])
        self.assertEqual(take_all(router), [route(1, 8, 32, (SELF, 6)), route(1, 9, 32, (SELF, 5))])

    def test_pairs_of_one_that_is_down_are_not_taken(self):
        router = router_with(0, 1, 2)
        do_all(router, [tell(0, 9, 32), tell(0, 8, 32), down(1)])
        self.assertEqual(self.order(router), [(2, 9, 32), (2, 8, 32)])

    def test_pairs_that_need_not_be_told_are_passed_over(self):
        router = router_with(0)
        # To one with as 55 there is only something to tell of the second and the fourth.
        paths = ((55,), (5,), (5, 55), (6,), range(16))
        do_all(router, [tell(0, net, 32, path) for net, path in enumerate(paths)])
        do(router, up(1, 55))
        self.assertEqual(len(row(router)), 5)
        self.assertEqual(do(router, next_told()), route(1, 1, 32, (SELF, 5)))
        # Those that were passed over don't wait any more; the ones behind do.
        self.assertEqual(row(router), [(1, 2, 32), (1, 3, 32), (1, 4, 32)])
        self.assertEqual(do(router, next_told()), route(1, 3, 32, (SELF, 6)))
        self.assertEqual(row(router), [(1, 4, 32)])
        self.assertEqual(do_all(router, [next_told(), next_told()]), [[8], [8]])
        self.assertEqual(row(router), [])

    def test_passed_over_alone(self):
        router = router_with(0)
        do_all(router, [tell(0, 9, 32, (55,)), up(1, 55)])
        before = all_of(router)
        self.assertEqual(row(router), [(1, 9, 32)])
        self.assertEqual(do(router, next_told()), [8])
        self.assertEqual(all_of(router), before[:4] + ([],) + before[5:])

    def test_passed_over_and_later_told_at_the_end(self):
        router = router_with(0, 2)
        do_all(router, [tell(0, 9, 32, (55,)), up(1, 55)])
        take_all(router)
        do_all(router, [tell(0, 8, 32, (5,)), tell(0, 9, 32, (6,))])
        self.assertEqual(self.order(router), [(1, 8, 32), (2, 8, 32), (1, 9, 32), (2, 9, 32)])

    def test_begin_empties_the_row(self):
        router = router_with(0, 1)
        self.assertEqual(do_all(router, [tell(0, 9, 32), begin(), next_told()]), [0, 0, [8]])

    def test_after_begin_nothing_was_told(self):
        router = router_with(0, 1)
        do_all(router, [tell(0, 9, 32), next_told(), begin(7), up(0), up(1), tell(0, 9, 32)])
        self.assertEqual(take_all(router), [route(1, 9, 32, (7, 1))])

    def test_a_long_row_passed_over(self):
        router = router_with(0)
        do_all(router, [tell(0, net, 32, (55,)) for net in range(3000)])
        do_all(router, [tell(0, 3000, 32, (5,)), up(1, 55)])
        self.assertEqual(do(router, next_told()), route(1, 3000, 32, (SELF, 5)))
        self.assertEqual(row(router), [])


if __name__ == "__main__":
    unittest.main()
