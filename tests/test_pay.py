"""Promise 2: pay, with what the document says ahead of it."""

import contextlib
import io
import itertools
import unittest

from bidsets.selling import best, pay
from tests.ways import (
    HIGHEST, LOWEST, MOST, FixedList, numbers_from, payments_by_trying_all, with_empty_sets, worth_by_trying_all,
)


class OrdinaryWays(unittest.TestCase):
    """Each with what every bidder pays, worked out by hand, and the sum that is answered."""

    def check(self, n, m, v, payments):
        self.assertIn(payments, payments_by_trying_all(n, m, v))
        self.assertEqual(pay(n, m, v), [0, sum(payments)])

    def test_nobody_pays_where_nobody_is_in_the_way(self):
        self.check(2, 2, [0, 5, 0, 5, 0, 0, 4, 4], [0, 0])

    def test_nobody_pays_though_another_is_given_nothing(self):
        # Without bidder 1 or without bidder 2 the rest still has 8: nobody is in another's way.
        self.check(3, 2, [0, 0, 0, 8, 0, 8, 0, 8, 0, 0, 8, 8], [0, 0, 0])

    def test_one_pays_for_one_thing(self):
        self.check(2, 1, [0, 5, 0, 3], [3, 0])
        self.check(2, 1, [0, 3, 0, 5], [0, 3])

    def test_one_pays_for_all_things(self):
        # Without bidder 0, bidder 1 would give 5 for both things.
        self.check(2, 2, [0, 1, 1, 9, 0, 3, 4, 5], [5, 0])

    def test_two_pay_each_what_the_other_misses(self):
        # Bidder 0 has thing 0 and bidder 1 thing 1; alone they would have had 7 and 9.
        self.check(2, 2, [0, 5, 2, 7, 0, 3, 6, 9], [3, 2])

    def test_two_pay_what_a_third_misses(self):
        # 6 and 6 against 8 for both: each pays 8 less 6.
        self.check(3, 2, [0, 0, 0, 8, 0, 6, 0, 6, 0, 0, 6, 6], [0, 2, 2])

    def test_three_pay(self):
        v = [0, 9, 3, 12, 1, 10, 4, 13,
             0, 4, 8, 12, 2, 6, 10, 14,
             0, 1, 2, 3, 7, 8, 9, 10]
        self.check(3, 3, v, [4, 3, 2])

    def test_one_is_given_nothing_and_pays_nothing(self):
        self.check(3, 1, [0, 4, 0, 7, 0, 6], [0, 6, 0])
        self.check(3, 2, [0, 6, 0, 6, 0, 1, 1, 2, 0, 0, 8, 8], [1, 0, 1])

    def test_one_pays_the_less_the_more_the_others_are_given(self):
        # Bidder 1 has thing 0 and bidder 0 thing 1: what bidder 0 gives for it comes off.
        self.check(2, 2, [0, 7, 2, 7, 0, 8, 0, 8], [0, 5])
        self.check(2, 2, [0, 7, 4, 7, 0, 8, 0, 8], [0, 3])

    def test_bit_j_is_thing_j_and_bidders_follow_one_another(self):
        # Set 3 to bidder 0 and set 4 to bidder 1; without bidder 0, bidder 1 would have set 6.
        v = [0, 0, 0, 10, 0, 0, 0, 0,
             0, 0, 0, 0, 3, 0, 9, 0]
        self.check(2, 3, v, [6, 0])


class SeveralWaysAreBest(unittest.TestCase):
    def test_two_who_give_the_same_for_one_thing(self):
        self.assertEqual(payments_by_trying_all(2, 1, [0, 5, 0, 5]), [[5, 0], [0, 5]])
        self.assertEqual(pay(2, 1, [0, 5, 0, 5]), [0, 5])

    def test_three_who_give_the_same_for_any_of_two_things(self):
        self.assertEqual(pay(3, 2, [0, 5, 5, 5] * 3), [0, 10])

    def test_two_things_for_two_whichever_they_have(self):
        self.assertEqual(pay(2, 2, [0, 5, 5, 5] * 2), [0, 0])

    def test_both_things_to_one_or_one_to_each(self):
        # 9 for both, or 4 and 5: bidder 0 pays 9, or bidders 1 and 2 pay 5 and 4.
        v = [0, 0, 0, 9, 0, 4, 0, 4, 0, 0, 5, 5]
        self.assertEqual(payments_by_trying_all(3, 2, v), [[9, 0, 0], [0, 4, 5]])
        self.assertEqual(pay(3, 2, v), [0, 9])


class AllWaysTried(unittest.TestCase):
    def check(self, n, m, v):
        sums = {sum(payments) for payments in payments_by_trying_all(n, m, v)}
        self.assertEqual(len(sums), 1, (n, m, v))
        self.assertEqual(pay(n, m, v), [0, sums.pop()], (n, m, v))

    def check_all_below(self, n, m, below):
        for values in itertools.product(range(below), repeat=n * (2 ** m - 1)):
            self.check(n, m, with_empty_sets(n, m, values))

    def test_every_small_value(self):
        for n, m, below in ((1, 1, 8), (2, 1, 8), (3, 1, 6), (1, 2, 4), (2, 2, 3), (3, 2, 2), (1, 3, 2)):
            self.check_all_below(n, m, below)

    def test_many_values_of_each_size(self):
        for n, m, below in itertools.product((1, 2, 3), (1, 2, 3), (2, 7, 100, MOST + 1)):
            for seed in range(30):
                values = numbers_from(seed, n * (2 ** m - 1), below)
                self.check(n, m, with_empty_sets(n, m, values))

    def test_largest_sizes_that_are_not_refused(self):
        for n, m in ((8, 1), (1, 6), (8, 2), (2, 6)):
            self.check(n, m, with_empty_sets(n, m, numbers_from(n + m, n * (2 ** m - 1), 50)))
        # Each bidder gives 1 for each thing: whoever has it, another would give 1 too.
        self.assertEqual(pay(8, 6, [bin(a).count("1") for a in range(64)] * 8), [0, 6])


class Edges(unittest.TestCase):
    def test_one_bidder_pays_nothing(self):
        self.assertEqual(pay(1, 1, [0, 0]), [0, 0])
        self.assertEqual(pay(1, 1, [0, MOST]), [0, 0])
        self.assertEqual(pay(1, 2, [0, 7, 2, 3]), [0, 0])
        self.assertEqual(pay(1, 3, [0, 1, 2, 3, 4, 5, 6, 7]), [0, 0])

    def test_one_thing_goes_at_the_second_highest_price(self):
        for n in (2, 3, 8):
            for seed in range(20):
                bids = numbers_from(seed, n, 30)
                self.assertEqual(pay(n, 1, with_empty_sets(n, 1, bids)), [0, sorted(bids)[-2]], bids)

    def test_all_values_0(self):
        for n in (1, 2, 3):
            for m in (1, 2, 3):
                self.assertEqual(pay(n, m, [0] * (n * 2 ** m)), [0, 0])

    def test_largest_values(self):
        for n in (1, 2, 3):
            for m in (1, 2, 3):
                v = ([0] + [MOST] * (2 ** m - 1)) * n
                # With a thing for everyone nobody is in the way; else each thing is paid in full.
                self.assertEqual(pay(n, m, v), [0, 0 if n <= m else MOST * m])

    def test_largest_value_beside_small_ones(self):
        self.assertEqual(pay(2, 1, [0, MOST, 0, MOST - 1]), [0, MOST - 1])
        self.assertEqual(pay(2, 2, [0, MOST, MOST, 0, 0, 0, 0, MOST]), [0, MOST])

    def test_larger_set_worth_less(self):
        # Bidder 0 has thing 1 and bidder 1 thing 0, who pays 7 less 2.
        self.assertEqual(pay(2, 2, [0, 7, 2, 3, 0, 6, 0, 0]), [0, 5])
        # Both want thing 0 alone, and nothing for both things.
        self.assertEqual(pay(2, 2, [0, 7, 0, 0, 0, 6, 0, 0]), [0, 6])
        self.assertEqual(pay(2, 3, [0, 5, 0, 0, 0, 0, 0, 1, 0, 0, 4, 0, 0, 0, 0, 2]), [0, 0])
        self.assertEqual(pay(2, 3, [0, 0, MOST, 1, 0, 0, 0, 0, 0, 0, 4, 0, 0, 0, 0, 2]), [0, 4])

    def test_answer_is_a_list_of_two_ints(self):
        for v in ([0, 0, 0, 0], [0, 1, 0, 2]):
            answer = pay(2, 1, v)
            self.assertIs(type(answer), list)
            self.assertEqual([type(number) for number in answer], [int, int])


class SizesRefused(unittest.TestCase):
    def check(self, n, m):
        answer = pay(n, m, [])
        self.assertEqual(answer, [-2], (n, m))
        self.assertIs(type(answer), list)
        self.assertIs(type(answer[0]), int)

    def test_n_out_of_range(self):
        for n in (LOWEST, -8, -1, 0, 9, 10, 16, HIGHEST):
            for m in (1, 2, 3, 6):
                self.check(n, m)

    def test_m_out_of_range(self):
        for m in (LOWEST, -6, -1, 0, 7, 8, 16, HIGHEST):
            for n in (1, 2, 3, 8):
                self.check(n, m)

    def test_both_out_of_range(self):
        for n in (LOWEST, -1, 0, 9, HIGHEST):
            for m in (LOWEST, -1, 0, 7, HIGHEST):
                self.check(n, m)


class GiftsForNothingRefused(unittest.TestCase):
    def test_each_bidder_of_each_size(self):
        for n, m in itertools.product((1, 2, 3), (1, 2, 3)):
            for bidder in range(n):
                for given in (1, 2, MOST):
                    for others in (0, 5):
                        v = ([0] + [others] * (2 ** m - 1)) * n
                        v[bidder * 2 ** m] = given
                        self.assertEqual(pay(n, m, v), [-3], (n, m, v))

    def test_several_bidders(self):
        self.assertEqual(pay(2, 1, [1, 1, 1, 1]), [-3])
        self.assertEqual(pay(3, 2, [4, 0, 0, 0, 0, 1, 2, 3, 4, 0, 0, 0]), [-3])

    def test_answer_is_a_list_of_one_int(self):
        answer = pay(1, 1, [1, 0])
        self.assertIs(type(answer), list)
        self.assertEqual([type(number) for number in answer], [int])


class NothingChangedOrKept(unittest.TestCase):
    calls = (
        (2, 2, [0, 5, 2, 7, 0, 3, 6, 9], [0, 5]),
        (3, 1, [0, MOST, 0, 7, 0, 6], [0, 7]),
        (1, 2, [0, 7, 2, 3], [0, 0]),
        (2, 1, [0, 3, 1, 3], [-3]),
        (9, 1, [], [-2]),
        (1, HIGHEST, [], [-2]),
    )

    def test_v_is_as_it_was(self):
        for n, m, v, answer in self.calls:
            handed = list(v)
            self.assertEqual(pay(n, m, handed), answer)
            self.assertEqual(handed, v)

    def test_v_is_not_changed_for_a_while(self):
        for n, m, v, answer in self.calls:
            self.assertEqual(pay(n, m, FixedList(v)), answer)

    def test_same_call_again_answers_the_same(self):
        for first, second in itertools.product(self.calls, repeat=2):
            for n, m, v, answer in (first, first, second, first):
                self.assertEqual(pay(n, m, v), answer)

    def test_calls_of_best_between_change_nothing(self):
        for first, second in itertools.product(self.calls, repeat=2):
            n, m, v, answer = first
            worth = best(n, m, v)
            if answer[0] == 0:
                self.assertEqual(worth, [0, worth_by_trying_all(n, m, v)])
            else:
                self.assertEqual(worth, answer)
            self.assertEqual(pay(n, m, v), answer)
            best(second[0], second[1], second[2])
            self.assertEqual(pay(n, m, v), answer)
            self.assertEqual(best(n, m, v), worth)

    def test_v_changed_between_calls_is_read_anew(self):
        v = [0, 5, 0, 3]
        self.assertEqual(pay(2, 1, v), [0, 3])
        v[3] = 4
        self.assertEqual(pay(2, 1, v), [0, 4])

    def test_answer_is_the_callers_own(self):
        for n, m, v, answer in self.calls:
            pay(n, m, v).append(77)
            self.assertEqual(pay(n, m, v), answer)

    def test_nothing_is_printed(self):
        out, err = io.StringIO(), io.StringIO()
        with contextlib.redirect_stdout(out), contextlib.redirect_stderr(err):
            for n, m, v, answer in self.calls:
                pay(n, m, v)
        self.assertEqual(out.getvalue() + err.getvalue(), "")


if __name__ == "__main__":
    unittest.main()
