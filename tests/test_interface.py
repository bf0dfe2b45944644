import unittest

from pathrouter.core import Router
from pathrouter.router import answer, answers
from tests.helper import GREATEST, INT_ENDS, SELF, all_of, back, begin, down, padded, tell, up


def line(*calls):
    return [number for call in calls for number in call]


class Unchangeable(list):
    """A list that fails when something tries to change it."""

    def refuse(self, *given):
        raise AssertionError("the list handed in is changed")

    append = extend = insert = pop = remove = clear = sort = reverse = refuse
    __setitem__ = __delitem__ = __iadd__ = __imul__ = refuse


class Interface(unittest.TestCase):
    def assert_answers(self, expected, *calls):
        """Each call here answers one number; ahead of it stands that it is one."""
        self.assertEqual(answers(line(*calls)), [number for answer in expected for number in (1, answer)])

    def test_one_call(self):
        self.assertEqual(answers([1, 0]), [1, 0])
        self.assertEqual(answers([1, GREATEST]), [1, 0])

    def test_the_calls_as_the_document_writes_them(self):
        path = padded((5, 6))
        calls = [1, 7, 2, 3, 65000, 9, 4, 3, 167772160, 8, 2, 100, 0, 50, 16] + path + [5, 3, 167772160, 8, 3, 3]
        self.assertEqual(answers(calls), [1, 0, 1, 0, 1, 0, 1, 0, 1, 0])

    def test_answers_are_whole_numbers_in_a_list(self):
        given = answers(line(begin(), up(0), up(0), tell(0, 0, 0), back(0, 0, 0), down(0), down(0)))
        self.assertIs(type(given), list)
        self.assertEqual({type(number) for number in given}, {int})

    def test_begin_again(self):
        self.assert_answers(
            [0, 0, -1, 0, 0, -1, 0, 0],
            begin(), up(0), up(0), tell(0, 0, 0), begin(), down(0), up(0), begin(),
        )

    def test_up_and_down(self):
        self.assert_answers(
            [0, 0, 0, -1, -1, -1, -1, -1, 0, -1, 0, 0, -1, -1, -1, -1],
            begin(), up(0), up(7), up(7), up(-1), up(8), up(INT_ENDS[0], 1), up(INT_ENDS[1], 1),
            down(7), down(7), up(7, GREATEST, GREATEST), down(0), down(-1), down(8), down(INT_ENDS[0]),
            down(INT_ENDS[1]),
        )

    def test_tell(self):
        self.assert_answers(
            [0, 0, 0, 0, 0, 0, 0, -1, -1, -1, -1, -1, -1, -1],
            begin(), up(0), tell(0, 0, 0), tell(0, GREATEST, 32, range(16), origin=2), tell(0, 0, 0, (5, 6)),
            tell(0, 0, 0, (SELF,)), tell(0, 0, 0, (5,), rest=SELF), tell(1, 0, 0), tell(0, 0, -1), tell(0, 0, 33),
            tell(0, 1, 31), tell(0, 0, 0, count=0), tell(0, 0, 0, count=17), tell(0, 0, 0, origin=3),
        )

    def test_each_number_reaches_its_place(self):
        # No two numbers are the same, and what they do is not all seen in the answers: so one step below them.
        router = Router()
        path = list(range(31, 47))
        calls = [[1, 70], [2, 5, 71, 72], [4, 5, 1 << 31, 1, 15, 73, 2, 74, 16] + path, [2, 6, 75, 76]]
        for call in calls:
            self.assertEqual(answer(router, call[0], call[1:]), [0])
        neighbours = [None] * 5 + [(5, 71, 72), (6, 75, 76), None]
        route = (tuple(path[:15]), 73, 2, 74)
        network = (1 << 31, 1)
        self.assertEqual(
            all_of(router), (70, neighbours, {(5,) + network: route}, {}, [(6,) + network], [network]),
        )
        for call in ([5, 5, 1 << 31, 1], [3, 6]):
            self.assertEqual(answer(router, call[0], call[1:]), [0])
        self.assertEqual(all_of(router), (70, [None] * 5 + [(5, 71, 72), None, None], {}, {}, [], []))

    def test_back(self):
        self.assert_answers(
            [0, 0, 0, 0, 0, -1, -1, -1, -1],
            begin(), up(0), tell(0, 0, 8), back(0, 0, 8), back(0, 0, 8), back(1, 0, 8), back(0, 1, 8),
            back(0, 0, -1), back(0, 0, 33),
        )

    def test_what_is_handed_in_stays_as_it_was(self):
        calls = line(begin(), up(0), up(1), tell(0, 0, 8), tell(1, 0, 8, (SELF,)), back(0, 0, 8), down(0))
        kept = list(calls)
        first = answers(Unchangeable(calls))
        self.assertEqual(answers(calls), first)
        self.assertEqual(calls, kept)

    def test_a_second_time_is_as_the_first(self):
        calls = line(begin(), up(0), tell(0, 0, 8), up(1))
        self.assertEqual(answers(calls), answers(calls))
        self.assert_answers([0, -1, -1, -1], begin(), down(0), tell(0, 0, 8), back(1, 0, 8))

    def test_what_is_given_back_is_new_each_time(self):
        calls = line(begin(), up(0))
        answers(calls).append(9)
        self.assertEqual(answers(calls), [1, 0, 1, 0])

    def test_the_most_calls(self):
        calls = [begin()] + [up(0), down(0)] * 1499 + [up(0)]
        self.assert_answers([0] * 3000, *calls)

    def test_the_longest_list(self):
        tells = [tell(k % 8, k, 32, range(200, 210)) for k in range(900)]
        churn = [up(7), down(7)] * 1000
        calls = [begin()] + [up(k) for k in range(8)] + tells + [down(7)] + churn
        self.assertLessEqual(len(line(*calls)), 30000)
        self.assert_answers([0] * len(calls), *calls)


if __name__ == "__main__":
    unittest.main()
