import unittest

from pathrouter.core import Router
from pathrouter.router import answer, answers
from tests.helper import (
    GREATEST, INT_ENDS, SELF, all_of, back, begin, best, count, down, line, next_told, padded, route, send, tell, up,
)


class Unchangeable(list):
    """A list that fails when something tries to change it."""

    def refuse(self, *given):
        raise AssertionError("the list handed in is changed")

    append = extend = insert = pop = remove = clear = sort = reverse = refuse
    __setitem__ = __delitem__ = __iadd__ = __imul__ = refuse


TEN = 10 << 24
MIXED, MIXED_ANSWERS = zip(
    (begin(7), 0),
    (count(), 0),
    (next_told(), [8]),
    (up(0, 40, 1), 0),
    (up(1, 50, 2), 0),
    (up(1, 51, 2), -1),
    (tell(0, TEN, 8, (40, 9), pref=5, med=6), 0),
    (tell(1, TEN, 8, (50, 9), pref=5, med=1), 0),
    # Their paths begin otherwise, so the lesser as counts.
    (best(TEN, 8), route(0, TEN, 8, (40, 9), pref=5, med=6)),
    (up(2, 9, 3), 0),
    (tell(1, TEN, 16, (50,), origin=1), 0),
    (count(), 2),
    (send(TEN + 1), 1),
    (send(TEN + (1 << 16)), 0),
    (send(0), 8),
    # 2 has as 9, which is in the path to TEN, 8: its pair is passed over.
    (next_told(), route(1, TEN, 8, (7, 40, 9))),
    (next_told(), route(0, TEN, 16, (7, 50), origin=1)),
    (next_told(), route(2, TEN, 16, (7, 50), origin=1)),
    (next_told(), [8]),
    (back(0, TEN, 8), 0),
    (best(TEN, 8), route(1, TEN, 8, (50, 9), pref=5, med=1)),
    (tell(0, 0, 0, (40, 7)), 0),
    (tell(0, 0, 0, (40, 8)), 0),
    (send(0), 0),
    (down(1), 0),
    (down(1), -1),
    (back(1, TEN, 8), -1),
    (best(TEN, 8), [8]),
    (best(TEN, 7), [8]),
    (best(TEN, 6), [-1]),
    (count(), 1),
    (send(TEN + 1), 0),
    # What 0 was to be told of TEN, 8 is gone before it was told; TEN, 16 was told, and is taken back.
    (next_told(), route(2, 0, 0, (7, 40, 8))),
    (next_told(), route(0, TEN, 16, ())),
    (next_told(), route(2, TEN, 16, ())),
    (next_told(), [8]),
    (up(1, 50, 2), 0),
    (begin(8), 0),
    (next_told(), [8]),
    (count(), 0),
    (send(0), 8),
    (best(0, 0), [8]),
    (tell(0, 0, 0), -1),
    (up(7, 1, 1), 0),
    (tell(7, GREATEST, 32, (7,)), 0),
    (up(0, 2, 2), 0),
    (next_told(), route(0, GREATEST, 32, (8, 7))),
    (send(GREATEST), 7),
    (count(), 1),
)


class Interface(unittest.TestCase):
    def assert_answers(self, expected, *calls):
        """A number stands for itself alone; ahead of each answer stands how many numbers it has."""
        given = []
        for one in expected:
            one = one if isinstance(one, list) else [one]
            given += [len(one)] + one
        self.assertEqual(answers(line(*calls)), given)

    def test_one_call(self):
        self.assertEqual(answers([1, 0]), [1, 0])
        self.assertEqual(answers([1, GREATEST]), [1, 0])

    def test_the_calls_as_the_document_writes_them(self):
        path = padded((5, 6))
        calls = [1, 7, 2, 3, 65000, 9, 4, 3, 167772160, 8, 2, 100, 0, 50, 16] + path + [5, 3, 167772160, 8, 3, 3]
        self.assertEqual(answers(calls), [1, 0, 1, 0, 1, 0, 1, 0, 1, 0])

    def test_next_best_send_and_count_as_the_document_writes_them(self):
        calls = [1, 7, 2, 3, 65000, 9, 2, 4, 65001, 8]
        calls += [4, 3, 167772160, 8, 2, 100, 1, 50, 16] + padded((5, 6), rest=77)
        given = [1, 0] * 4
        calls += [7, 167772160, 8, 7, 167772160, 9, 7, 167772160, 4]
        given += [23, 3, 167772160, 8, 2, 100, 1, 50, 5, 6] + [0] * 14 + [1, 8, 1, -1]
        calls += [6, 6, 8, 167772161, 8, 0, 9]
        given += [23, 4, 167772160, 8, 3, 0, 1, 0, 7, 5, 6] + [0] * 13 + [1, 8, 1, 3, 1, 8, 1, 1]
        calls += [5, 3, 167772160, 8, 6, 6, 8, 167772161, 9]
        given += [1, 0, 23, 4, 167772160, 8] + [0] * 20 + [1, 8, 1, 8, 1, 0]
        self.assertEqual(answers(calls), given)

    def test_answers_are_whole_numbers_in_a_list(self):
        given = answers(line(*MIXED))
        self.assertIs(type(given), list)
        self.assertEqual({type(number) for number in given}, {int})

    def test_begin_again(self):
        self.assert_answers(
            [0, 0, -1, 0, 0, -1, 0, 0],
            begin(), up(0), up(0), tell(0, 0, 0), begin(), down(0), up(0), begin(),
        )

    def test_mixed(self):
        self.assert_answers(MIXED_ANSWERS, *MIXED)

    def test_next(self):
        self.assert_answers(
            [0, [8], 0, 0, 0, route(1, 0, 8, (SELF, 5), origin=2), [8], 0, route(1, 0, 8, ()), [8]],
            begin(), next_told(), up(0), up(1), tell(0, 0, 8, (5,), pref=3, origin=2, med=4), next_told(), next_told(),
            back(0, 0, 8), next_told(), next_told(),
        )

    def test_next_passes_over_what_need_not_be_told(self):
        self.assert_answers(
            [0, 0, 0, 0, 0, 0, route(7, 2, 32, (SELF, 6)), [8], [8]],
            begin(), up(0), tell(0, 1, 32, (55,)), tell(0, 2, 32, (6,)), tell(0, 3, 32, range(16)), up(7, 55),
            next_told(), next_told(), next_told(),
        )

    def test_best(self):
        longest = tuple(range(16))
        self.assert_answers(
            [0, [8], [-1], [-1], [-1], [-1], [-1], 0, 0, route(0, 0, 0, longest, 1, 2, 3), 0, [8]],
            begin(), best(0, 0), best(1, 0), best(0, -1), best(0, 33), best(0, INT_ENDS[0]), best(0, INT_ENDS[1]),
            up(0), tell(0, 0, 0, longest, pref=1, origin=2, med=3), best(0, 0), back(0, 0, 0), best(0, 0),
        )

    def test_send_and_count(self):
        self.assert_answers(
            [0, 8, 0, 0, 0, 0, 0, 0, 0, 0, 3, 2, 1, 0, 0, 2, 1, 1],
            begin(), send(0), count(), up(0), up(1), up(2), tell(0, 0, 0), tell(2, 0, 32), tell(1, 0, 1),
            tell(0, 0, 1, pref=0, path=(1, 1)), count(), send(0), send(1), send(GREATEST), down(2), count(), send(0),
            send(1 << 30),
        )

    def test_up_and_down(self):
        self.assert_answers(
            [0, 0, 0, -1, -1, -1, -1, -1, 0, -1, 0, 0, -1, -1, -1, -1],
            begin(), up(0), up(7), up(7), up(-1), up(8), up(INT_ENDS[0], 1), up(INT_ENDS[1], 1),
            down(7), down(7), up(7, GREATEST, GREATEST), down(0), down(-1), down(8), down(INT_ENDS[0]),
            down(INT_ENDS[1]),
        )

    def test_tell(self):
        self.assert_answers(
            [0, 0, 0, 0, 0, 0, 0, -1, -1, -1, -1, -1, -1, -1],
            begin(), up(0), tell(0, 0, 0), tell(0, GREATEST, 32, range(16), origin=2), tell(0, 0, 0, (5, 6)),
            tell(0, 0, 0, (SELF,)), tell(0, 0, 0, (5,), rest=SELF), tell(1, 0, 0), tell(0, 0, -1), tell(0, 0, 33),
            tell(0, 1, 31), tell(0, 0, 0, count=0), tell(0, 0, 0, count=17), tell(0, 0, 0, origin=3),
        )

    def test_each_number_reaches_its_place(self):
        # No two numbers are the same, and what they do is not all seen in the answers: so one step below them.
        router = Router()
        path = list(range(31, 47))
        calls = [[1, 70], [2, 5, 71, 72], [4, 5, 1 << 31, 1, 15, 73, 2, 74, 16] + path, [2, 6, 75, 76]]
        for call in calls:
            self.assertEqual(answer(router, call[0], call[1:]), [0])
        neighbours = [None] * 5 + [(5, 71, 72), (6, 75, 76), None]
        route = (tuple(path[:15]), 73, 2, 74)
        network = (1 << 31, 1)
        self.assertEqual(
            all_of(router), (70, neighbours, {(5,) + network: route}, {}, [(6,) + network], [network]),
        )
        for call in ([5, 5, 1 << 31, 1], [3, 6]):
            self.assertEqual(answer(router, call[0], call[1:]), [0])
        self.assertEqual(all_of(router), (70, [None] * 5 + [(5, 71, 72), None, None], {}, {}, [], []))

    def test_back(self):
        self.assert_answers(
            [0, 0, 0, 0, 0, -1, -1, -1, -1],
            begin(), up(0), tell(0, 0, 8), back(0, 0, 8), back(0, 0, 8), back(1, 0, 8), back(0, 1, 8),
            back(0, 0, -1), back(0, 0, 33),
        )

    def test_what_is_handed_in_stays_as_it_was(self):
        calls = line(*MIXED)
        kept = list(calls)
        first = answers(Unchangeable(calls))
        self.assertEqual(answers(calls), first)
        self.assertEqual(calls, kept)

    def test_a_second_time_is_as_the_first(self):
        calls = line(begin(), up(0), tell(0, 0, 8), up(1))
        self.assertEqual(answers(calls), answers(calls))
        self.assert_answers(
            [0, -1, -1, -1, [8], [8], 8, 0],
            begin(), down(0), tell(0, 0, 8), back(1, 0, 8), next_told(), best(0, 8), send(0), count(),
        )

    def test_what_is_given_back_is_new_each_time(self):
        calls = line(begin(), up(0))
        answers(calls).append(9)
        self.assertEqual(answers(calls), [1, 0, 1, 0])

    def test_the_most_calls(self):
        calls = [begin()] + [up(0), down(0)] * 1499 + [up(0)]
        self.assert_answers([0] * 3000, *calls)

    def test_the_longest_list(self):
        tells = [tell(k % 8, k, 32, range(200, 210)) for k in range(900)]
        churn = [up(7), down(7)] * 1000
        calls = [begin()] + [up(k) for k in range(8)] + tells + [down(7)] + churn
        self.assertLessEqual(len(line(*calls)), 30000)
        self.assert_answers([0] * len(calls), *calls)

    def test_the_longest_row(self):
        tells = [tell(0, net, 32, (5,)) for net in range(1100)]
        calls = [begin()] + [up(k) for k in range(8)] + tells + [next_told()] * 1800
        self.assertLessEqual(len(line(*calls)), 30000)
        taken = [route(1 + i % 7, i // 7, 32, (SELF, 5)) for i in range(1800)]
        self.assert_answers([0] * 1109 + taken, *calls)

    def test_many_times_asked(self):
        tells = [tell(0, net, 32, (5,)) for net in range(1000)]
        asked = [best(999, 32), send(999), send(1000), count()] * 490
        calls = [begin(), up(0)] + tells + asked
        self.assertLessEqual(len(line(*calls)), 30000)
        self.assert_answers([0] * 1002 + [route(0, 999, 32, (5,)), 0, 8, 1000] * 490, *calls)


if __name__ == "__main__":
    unittest.main()
