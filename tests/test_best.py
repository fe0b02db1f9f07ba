"""Promise 1: best, with what the document says ahead of it."""

import contextlib
import io
import itertools
import unittest

from bidsets.selling import best
from tests.ways import HIGHEST, LOWEST, MOST, FixedList, numbers_from, with_empty_sets, worth_by_trying_all


class OrdinaryWays(unittest.TestCase):
    def test_one_bidder_gets_all_things(self):
        self.assertEqual(best(2, 2, [0, 1, 1, 9, 0, 3, 4, 5]), [0, 9])

    def test_last_bidder_gets_all_things(self):
        self.assertEqual(best(2, 2, [0, 3, 4, 5, 0, 1, 1, 9]), [0, 9])

    def test_things_are_shared_out(self):
        self.assertEqual(best(2, 2, [0, 5, 1, 6, 0, 2, 4, 7]), [0, 9])

    def test_no_thing_goes_to_two(self):
        self.assertEqual(best(2, 1, [0, 5, 0, 5]), [0, 5])
        self.assertEqual(best(3, 2, [0, 5, 0, 5, 0, 5, 0, 5, 0, 5, 0, 5]), [0, 5])

    def test_a_bidder_gets_one_set_alone(self):
        # Things 0 and 1 are worth 4 each by themselves, but 5 together to the one bidder.
        self.assertEqual(best(1, 2, [0, 4, 4, 5]), [0, 5])

    def test_some_bidder_is_left_with_none(self):
        self.assertEqual(best(3, 1, [0, 4, 0, 7, 0, 6]), [0, 7])
        self.assertEqual(best(3, 2, [0, 6, 0, 6, 0, 1, 1, 2, 0, 0, 8, 8]), [0, 14])

    def test_three_bidders_get_a_thing_each(self):
        v = [0, 1, 2, 2, 9, 9, 9, 9,
             0, 8, 1, 8, 2, 8, 2, 8,
             0, 1, 7, 7, 3, 3, 7, 7]
        self.assertEqual(best(3, 3, v), [0, 24])

    def test_one_gets_two_things_and_another_gets_one(self):
        v = [0, 1, 1, 2, 1, 20, 2, 20,
             0, 6, 6, 12, 6, 12, 12, 18,
             0, 5, 5, 5, 5, 5, 5, 5]
        self.assertEqual(best(3, 3, v), [0, 26])

    def test_bit_j_is_thing_j_and_bidders_follow_one_another(self):
        # Set 3 of bidder 0 and set 4 of bidder 1 go together; set 3 and set 6 don't.
        v = [0, 0, 0, 10, 0, 0, 0, 0,
             0, 0, 0, 0, 3, 0, 9, 0]
        self.assertEqual(best(2, 3, v), [0, 13])


class AllWaysTried(unittest.TestCase):
    def check(self, n, m, v):
        self.assertEqual(best(n, m, v), [0, worth_by_trying_all(n, m, v)], (n, m, v))

    def check_all_below(self, n, m, below):
        for values in itertools.product(range(below), repeat=n * (2 ** m - 1)):
            self.check(n, m, with_empty_sets(n, m, values))

    def test_every_small_value(self):
        for n, m, below in ((1, 1, 8), (2, 1, 8), (3, 1, 8), (1, 2, 6), (2, 2, 3), (3, 2, 2), (1, 3, 3)):
            self.check_all_below(n, m, below)

    def test_many_values_of_each_size(self):
        for n, m, below in itertools.product((1, 2, 3), (1, 2, 3), (2, 7, 100, MOST + 1)):
            for seed in range(40):
                values = numbers_from(seed, n * (2 ** m - 1), below)
                self.check(n, m, with_empty_sets(n, m, values))

    def test_largest_sizes_that_are_not_refused(self):
        for n, m in ((8, 1), (1, 6), (8, 3), (2, 6)):
            self.check(n, m, with_empty_sets(n, m, numbers_from(n + m, n * (2 ** m - 1), 50)))
        # Each bidder gives 1 for each thing: all six things are sold.
        self.assertEqual(best(8, 6, [bin(a).count("1") for a in range(64)] * 8), [0, 6])


class Edges(unittest.TestCase):
    def test_one_bidder_and_one_thing(self):
        self.assertEqual(best(1, 1, [0, 0]), [0, 0])
        self.assertEqual(best(1, 1, [0, 1]), [0, 1])
        self.assertEqual(best(1, 1, [0, MOST]), [0, MOST])

    def test_one_bidder(self):
        self.assertEqual(best(1, 3, [0, 1, 2, 3, 4, 5, 6, 7]), [0, 7])

    def test_one_thing(self):
        self.assertEqual(best(3, 1, [0, 2, 0, 9, 0, 9]), [0, 9])

    def test_all_values_0(self):
        for n in (1, 2, 3):
            for m in (1, 2, 3):
                self.assertEqual(best(n, m, [0] * (n * 2 ** m)), [0, 0])

    def test_largest_values(self):
        for n in (1, 2, 3):
            for m in (1, 2, 3):
                v = ([0] + [MOST] * (2 ** m - 1)) * n
                self.assertEqual(best(n, m, v), [0, MOST * min(n, m)])

    def test_larger_set_worth_less_leaves_a_thing_with_none(self):
        self.assertEqual(best(1, 2, [0, 7, 2, 3]), [0, 7])
        self.assertEqual(best(1, 2, [0, 2, 7, 0]), [0, 7])
        self.assertEqual(best(1, 3, [0, 0, MOST, 1, 0, 0, 0, 0]), [0, MOST])
        self.assertEqual(best(2, 2, [0, 7, 0, 0, 0, 6, 0, 0]), [0, 7])
        self.assertEqual(best(2, 3, [0, 5, 0, 0, 0, 0, 0, 1, 0, 0, 4, 0, 0, 0, 0, 2]), [0, 9])

    def test_answer_is_a_list_of_two_ints(self):
        for v in ([0, 0, 0, 0], [0, 1, 0, 2]):
            answer = best(2, 1, v)
            self.assertIs(type(answer), list)
            self.assertEqual([type(number) for number in answer], [int, int])


class SizesRefused(unittest.TestCase):
    def check(self, n, m):
        answer = best(n, m, [])
        self.assertEqual(answer, [-2], (n, m))
        self.assertIs(type(answer), list)
        self.assertIs(type(answer[0]), int)

    def test_n_out_of_range(self):
        for n in (LOWEST, -8, -1, 0, 9, 10, 16, HIGHEST):
            for m in (1, 2, 3, 6):
                self.check(n, m)

    def test_m_out_of_range(self):
        for m in (LOWEST, -6, -1, 0, 7, 8, 16, HIGHEST):
            for n in (1, 2, 3, 8):
                self.check(n, m)

    def test_both_out_of_range(self):
        for n in (LOWEST, -1, 0, 9, HIGHEST):
            for m in (LOWEST, -1, 0, 7, HIGHEST):
                self.check(n, m)


class GiftsForNothingRefused(unittest.TestCase):
    def test_each_bidder_of_each_size(self):
        for n, m in itertools.product((1, 2, 3), (1, 2, 3)):
            for bidder in range(n):
                for given in (1, 2, MOST):
                    for others in (0, 5):
                        v = ([0] + [others] * (2 ** m - 1)) * n
                        v[bidder * 2 ** m] = given
                        self.assertEqual(best(n, m, v), [-3], (n, m, v))

    def test_several_bidders(self):
        self.assertEqual(best(2, 1, [1, 1, 1, 1]), [-3])
        self.assertEqual(best(3, 2, [4, 0, 0, 0, 0, 1, 2, 3, 4, 0, 0, 0]), [-3])

    def test_answer_is_a_list_of_one_int(self):
        answer = best(1, 1, [1, 0])
        self.assertIs(type(answer), list)
        self.assertEqual([type(number) for number in answer], [int])


class NothingChangedOrKept(unittest.TestCase):
    calls = (
        (2, 2, [0, 5, 1, 6, 0, 2, 4, 7], [0, 9]),
        (3, 1, [0, MOST, 0, 7, 0, 6], [0, MOST]),
        (1, 2, [0, 7, 2, 3], [0, 7]),
        (2, 1, [0, 3, 1, 3], [-3]),
        (9, 1, [], [-2]),
        (1, HIGHEST, [], [-2]),
    )

    def test_v_is_as_it_was(self):
        for n, m, v, answer in self.calls:
            handed = list(v)
            self.assertEqual(best(n, m, handed), answer)
            self.assertEqual(handed, v)

    def test_v_is_not_changed_for_a_while(self):
        for n, m, v, answer in self.calls:
            self.assertEqual(best(n, m, FixedList(v)), answer)

    def test_same_call_again_answers_the_same(self):
        for first, second in itertools.product(self.calls, repeat=2):
            for n, m, v, answer in (first, first, second, first):
                self.assertEqual(best(n, m, v), answer)

    def test_v_changed_between_calls_is_read_anew(self):
        v = [0, 5, 0, 3]
        self.assertEqual(best(2, 1, v), [0, 5])
        v[3] = 8
        self.assertEqual(best(2, 1, v), [0, 8])

    def test_answer_is_the_callers_own(self):
        for n, m, v, answer in self.calls:
            best(n, m, v).append(77)
            self.assertEqual(best(n, m, v), answer)

    def test_nothing_is_printed(self):
        out, err = io.StringIO(), io.StringIO()
        with contextlib.redirect_stdout(out), contextlib.redirect_stderr(err):
            for n, m, v, answer in self.calls:
                best(n, m, v)
        self.assertEqual(out.getvalue() + err.getvalue(), "")


if __name__ == "__main__":
    unittest.main()
