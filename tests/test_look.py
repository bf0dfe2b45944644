import unittest

from tests.helper import (
    GREATEST, SELF, back, do, do_all, due_for, next_told, router_with, row, take_all, tell, told, up,
)


class ShouldBeTold(unittest.TestCase):
    def test_no_route(self):
        self.assertIsNone(due_for(router_with(0), 0, 9, 32))

    def test_another_neighbours_route(self):
        router = router_with(0, 1, 7)
        do(router, tell(1, 9, 32, (5, 6, 7), pref=3, origin=2, med=8))
        self.assertEqual(due_for(router, 0, 9, 32), ((SELF, 5, 6, 7), 2))
        self.assertEqual(due_for(router, 7, 9, 32), ((SELF, 5, 6, 7), 2))

    def test_its_own_route(self):
        router = router_with(0, 1)
        do_all(router, [tell(0, 9, 32, (5,), pref=1), tell(1, 9, 32, (6,))])
        self.assertIsNone(due_for(router, 0, 9, 32))
        self.assertEqual(due_for(router, 1, 9, 32), ((SELF, 5), 0))

    def test_its_as_in_the_path(self):
        for path in ((55,), (55, 1, 2), (1, 55, 2), (1, 2, 55)):
            router = router_with(0, 1)
            do_all(router, [up(2, 55), tell(0, 9, 32, path)])
            self.assertIsNone(due_for(router, 2, 9, 32))
            self.assertEqual(due_for(router, 1, 9, 32), ((SELF,) + path, 0))

    def test_its_as_only_behind_the_count(self):
        router = router_with(0)
        do_all(router, [up(2, 55), tell(0, 9, 32, (1, 2, 55), count=2)])
        self.assertEqual(due_for(router, 2, 9, 32), ((SELF, 1, 2), 0))

    def test_its_as_is_self(self):
        router = router_with(0)
        do_all(router, [up(2, SELF), tell(0, 9, 32, (1,))])
        self.assertEqual(due_for(router, 2, 9, 32), ((SELF, 1), 0))

    def test_the_best_is_not_passed_over_for_one_that_could_be_told(self):
        router = router_with(0, 1)
        do_all(router, [up(2, 55), tell(0, 9, 32, (55,), pref=1), tell(1, 9, 32, (6,))])
        self.assertIsNone(due_for(router, 2, 9, 32))

    def test_paths_of_15_and_16_numbers(self):
        router = router_with(0, 1)
        path = tuple(range(1, 17))
        do_all(router, [tell(0, 8, 32, path[:15]), tell(0, 9, 32, path)])
        self.assertEqual(due_for(router, 1, 8, 32), ((SELF,) + path[:15], 0))
        self.assertIsNone(due_for(router, 1, 9, 32))
        self.assertEqual(row(router), [(1, 8, 32)])

    def test_greatest_numbers(self):
        router = router_with(0, 1, self_number=GREATEST)
        do(router, tell(0, GREATEST, 32, (GREATEST - 1,) * 15, origin=2))
        self.assertEqual(due_for(router, 1, GREATEST, 32), ((GREATEST,) + (GREATEST - 1,) * 15, 2))


class LookedAt(unittest.TestCase):
    def test_a_pair_for_each_neighbour_that_is_up_from_0_on(self):
        router = router_with(6, 2, 0, 3, 7)
        do(router, tell(3, 9, 32))
        self.assertEqual(row(router), [(0, 9, 32), (2, 9, 32), (6, 9, 32), (7, 9, 32)])

    def test_to_the_rows_end(self):
        router = router_with(0, 1, 2)
        do_all(router, [tell(2, 9, 32), tell(1, 3, 32), tell(0, 9, 32, pref=1)])
        self.assertEqual(row(router), [(1, 9, 32), (0, 3, 32), (2, 3, 32), (2, 9, 32)])

    def test_a_pair_that_waits_stays_in_its_place(self):
        router = router_with(0, 1)
        do_all(router, [tell(0, 9, 32, (5,)), tell(0, 8, 32), tell(0, 9, 32, (6,))])
        self.assertEqual(row(router), [(1, 9, 32), (1, 8, 32)])
        self.assertEqual(due_for(router, 1, 9, 32), ((SELF, 6), 0))

    def test_a_pair_does_not_wait_any_more(self):
        router = router_with(0, 1, 2)
        do_all(router, [tell(0, 9, 32), tell(0, 8, 32), back(0, 9, 32)])
        self.assertEqual(row(router), [(1, 8, 32), (2, 8, 32)])

    def test_told_again_after_it_did_not_wait_it_goes_to_the_end(self):
        router = router_with(0, 1)
        do_all(router, [tell(0, 9, 32), tell(0, 8, 32), back(0, 9, 32), tell(0, 9, 32)])
        self.assertEqual(row(router), [(1, 8, 32), (1, 9, 32)])

    def test_what_was_told_last_need_not_be_told(self):
        router = router_with(0, 1, 2)
        do(router, tell(0, 9, 32, (5,), origin=1))
        do(router, next_told())
        self.assertEqual(told(router), {(1, 9, 32): ((SELF, 5), 1)})
        do(router, tell(0, 9, 32, (5,), pref=7, origin=1, med=7))
        self.assertEqual(row(router), [(2, 9, 32)])

    def test_back_to_what_was_told_last(self):
        router = router_with(0, 1)
        do(router, tell(0, 9, 32, (5,)))
        take_all(router)
        do(router, tell(0, 9, 32, (6,)))
        self.assertEqual(row(router), [(1, 9, 32)])
        do(router, tell(0, 9, 32, (5,)))
        self.assertEqual(row(router), [])

    def test_another_path_or_origin_than_told_last(self):
        for change in ({"path": (6,)}, {"path": (5, 5)}, {"path": (5,), "origin": 1}):
            router = router_with(0, 1)
            do(router, tell(0, 9, 32, (5,)))
            take_all(router)
            do(router, tell(0, 9, 32, **change))
            self.assertEqual(row(router), [(1, 9, 32)])

    def test_taken_back_waits_only_if_something_was_told(self):
        router = router_with(0, 1, 2)
        do(router, tell(0, 9, 32))
        do_all(router, [next_told(), back(0, 9, 32)])
        self.assertEqual(row(router), [(1, 9, 32)])
        self.assertEqual(told(router), {(1, 9, 32): ((SELF, 1), 0)})

    def test_after_taken_back_was_told_nothing_waits(self):
        router = router_with(0, 1)
        do(router, tell(0, 9, 32))
        take_all(router)
        do(router, back(0, 9, 32))
        take_all(router)
        do(router, tell(0, 9, 32, range(16)))
        self.assertEqual(row(router), [])

    def test_the_teller_is_told_of_a_better_one_and_this_taken_back(self):
        router = router_with(0, 1)
        do(router, tell(0, 9, 32))
        take_all(router)
        do(router, tell(1, 9, 32, (6,), pref=1))
        self.assertEqual(row(router), [(0, 9, 32), (1, 9, 32)])
        self.assertEqual(due_for(router, 0, 9, 32), ((SELF, 6), 0))
        self.assertIsNone(due_for(router, 1, 9, 32))

    def test_only_that_network(self):
        router = router_with(0)
        do_all(router, [tell(0, 0, 8, (55,)), tell(0, 0, 16, (55,)), up(1, 55), tell(0, 0, 16, (55,))])
        # Up made both wait; looked at, the one has nothing to tell.
        self.assertEqual(row(router), [(1, 0, 8)])


if __name__ == "__main__":
    unittest.main()
