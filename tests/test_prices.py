"""Promise 3: prices, with what the document says ahead of it."""

import contextlib
import io
import itertools
import unittest

from bidsets.selling import best, pay, prices
from tests.ways import (
    HIGHEST, LOWEST, MOST, FixedList, all_is_well, least_by_trying_all, numbers_from, sets_from_things,
)

SIZES = list(itertools.product((1, 2, 3), (1, 2, 3)))


class OrdinaryPrices(unittest.TestCase):
    """Each worked out by hand, with a having for which all is well."""

    def check(self, n, m, v, having, priced):
        self.assertTrue(all_is_well(m, v, priced, having))
        self.assertEqual(prices(n, m, v), [0] + priced)
        self.assertEqual(least_by_trying_all(n, m, v)[0], priced)

    def test_fewer_bidders_than_things(self):
        self.check(1, 2, [3, 5], [1], [0, 0])
        self.check(2, 3, [6, 1, 2,
                          5, 2, 1], [0, 1], [3, 0, 0])
        self.check(2, 3, [0, 6, 4,
                          1, 6, 3], [2, 1], [0, 2, 0])

    def test_as_many_bidders_as_things(self):
        self.check(2, 2, [6, 4,
                          6, 3], [1, 0], [2, 0])
        self.check(3, 3, [5, 4, 2,
                          5, 3, 1,
                          1, 3, 0], [2, 0, 1], [3, 2, 0])

    def test_more_bidders_than_things(self):
        self.check(3, 1, [2, 6, 4], [None, 0, None], [4])
        self.check(3, 2, [6, 1,
                          2, 5,
                          4, 3], [0, 1, None], [4, 3])

    def test_no_price_above_0(self):
        self.check(2, 2, [5, 1, 2, 6], [0, 1], [0, 0])
        self.check(3, 3, [1, 6, 0, 4, 4, 0, 3, 3, 3], [1, 0, 2], [0, 0, 0])

    def test_one_price_above_0(self):
        self.check(2, 2, [1, 6, 2, 5], [1, 0], [0, 3])
        self.check(3, 3, [6, 0, 4, 6, 5, 0, 0, 0, 1], [0, 1, 2], [1, 0, 0])

    def test_several_prices_above_0(self):
        self.check(3, 2, [6, 6, 5, 5, 4, 4], [0, 1, None], [4, 4])
        self.check(3, 3, [6, 5, 0, 6, 4, 1, 5, 6, 2], [0, 2, 1], [5, 4, 0])

    def test_a_price_rises_only_because_another_does(self):
        # Bidder 0 wants thing 0 alone, bidder 1 has thing 1 and would leave it for thing 0.
        self.check(2, 2, [6, 0, 6, 4], [0, 1], [2, 0])
        # Who comes wants thing 1 alone; that puts thing 0 up by as much.
        self.check(3, 2, [6, 0, 6, 4, 0, 3], [0, 1, None], [5, 3])

    def test_a_price_rises_through_two_others(self):
        self.check(3, 3, [6, 0, 0, 6, 5, 0, 0, 5, 4], [0, 1, 2], [2, 1, 0])

    def test_who_has_nothing_puts_prices_up_too(self):
        self.check(2, 1, [6, 5], [0, None], [5])
        self.check(3, 2, [6, 0, 0, 6, 5, 1], [0, 1, None], [5, 1])

    def test_thing_j_of_bidder_i_is_at_i_m_and_j(self):
        self.check(3, 2, [1, 2, 3, 4, 5, 6], [None, 0, 1], [1, 2])
        self.check(2, 3, [1, 2, 6, 3, 4, 5], [2, 1], [0, 0, 1])


class SeveralHavings(unittest.TestCase):
    def check(self, n, m, v, priced, havings):
        self.assertEqual(least_by_trying_all(n, m, v), (priced, havings))
        self.assertEqual(prices(n, m, v), [0] + priced)

    def test_two_who_give_the_same_for_one_thing(self):
        self.check(2, 1, [5, 5], [5], [[None, 0], [0, None]])

    def test_either_thing_for_one_bidder(self):
        self.check(1, 2, [4, 4], [0, 0], [[0], [1]])

    def test_either_thing_for_either_bidder(self):
        self.check(2, 2, [4, 6, 3, 5], [0, 2], [[0, 1], [1, 0]])

    def test_nothing_or_a_thing_given_nothing_for(self):
        self.check(1, 1, [0], [0], [[None], [0]])
        self.check(2, 2, [6, 0, 5, 0], [5, 0], [[0, None], [0, 1]])


class AllPricesAndHavingsTried(unittest.TestCase):
    def check(self, n, m, v):
        self.assertEqual(prices(n, m, v), [0] + least_by_trying_all(n, m, v)[0], (n, m, v))

    def test_every_small_value(self):
        for n, m, below in ((1, 1, 7), (2, 1, 7), (3, 1, 7), (1, 2, 7), (1, 3, 4),
                            (2, 2, 4), (3, 2, 3), (2, 3, 3), (3, 3, 2)):
            for values in itertools.product(range(below), repeat=n * m):
                self.check(n, m, list(values))

    def test_many_values_of_each_size(self):
        for n, m in SIZES:
            for seed in range(60 if n * m < 9 else 40):
                self.check(n, m, numbers_from(seed, n * m, 7))


class LargerThanAsked(unittest.TestCase):
    def test_all_together_are_what_all_pay_for_things_alone(self):
        # Each pays the least price of the thing they have, and what nobody has is priced 0.
        for n, m, below in itertools.product((2, 4, 5, 8), (1, 3, 4), (7, 100, MOST + 1)):
            for seed in range(3):
                v = numbers_from(seed, n * m, below)
                answer = prices(n, m, v)
                self.assertEqual(len(answer), m + 1)
                self.assertEqual([0, sum(answer)], pay(n, m, sets_from_things(n, m, v)), (n, m, v))

    def test_largest_sizes_that_are_not_refused(self):
        self.assertEqual(prices(16, 16, [0] * 256), [0] * 17)
        self.assertEqual(prices(16, 16, [6] * 256), [0] * 17)
        self.assertEqual(prices(16, 15, [6] * 240), [0] + [6] * 15)
        self.assertEqual(prices(1, 16, list(range(16))), [0] * 17)
        self.assertEqual(prices(16, 1, list(range(16))), [0, 14])

    def test_a_price_rises_through_all_others(self):
        # Bidder i has thing i for 20 and gives 21 for thing i - 1, which so is priced one above thing i.
        for n in (2, 3, 9, 16):
            v = [0] * (n * n)
            for bidder in range(n):
                v[bidder * n + bidder] = 20
                if bidder > 0:
                    v[bidder * n + bidder - 1] = 21
            self.assertEqual(prices(n, n, v), [0] + list(range(n - 1, -1, -1)))
            # The other way about, so that things come in the other order.
            self.assertEqual(prices(n, n, v[::-1]), [0] + list(range(n)))


class Edges(unittest.TestCase):
    def test_one_bidder_has_every_price_0(self):
        for m in (1, 2, 3):
            for values in itertools.product(range(7), repeat=m):
                self.assertEqual(prices(1, m, list(values)), [0] + [0] * m)

    def test_one_thing_is_priced_by_the_second(self):
        for n in (1, 2, 3):
            for values in itertools.product(range(7), repeat=n):
                self.assertEqual(prices(n, 1, list(values)), [0, sorted(values + (0,))[-2] if n > 1 else 0])

    def test_all_values_0(self):
        for n, m in SIZES:
            self.assertEqual(prices(n, m, [0] * (n * m)), [0] + [0] * m)

    def test_all_values_6(self):
        for n, m in SIZES:
            self.assertEqual(prices(n, m, [6] * (n * m)), [0] + [6 if n > m else 0] * m)

    def test_two_or_three_who_give_the_same(self):
        self.assertEqual(prices(2, 2, [5, 3, 5, 3]), [0, 2, 0])
        self.assertEqual(prices(2, 3, [5, 3, 1, 5, 3, 1]), [0, 2, 0, 0])
        self.assertEqual(prices(3, 2, [5, 3, 5, 3, 5, 3]), [0, 5, 3])
        self.assertEqual(prices(3, 3, [5, 3, 1, 5, 3, 1, 5, 3, 1]), [0, 4, 2, 0])
        # Two of three.
        self.assertEqual(prices(3, 2, [5, 3, 5, 3, 1, 1]), [0, 3, 1])

    def test_a_thing_for_which_nobody_gives_anything(self):
        self.assertEqual(prices(2, 2, [0, 5, 0, 4]), [0, 0, 4])
        # Bidder 2 has nothing, so thing 2 is priced 1; then bidder 1 has thing 2 and gains nothing by it.
        self.assertEqual(prices(3, 3, [6, 0, 2, 5, 0, 1, 4, 0, 1]), [0, 5, 0, 1])

    def test_a_bidder_who_gives_nothing_for_anything(self):
        self.assertEqual(prices(2, 2, [0, 0, 5, 4]), [0, 0, 0])
        self.assertEqual(prices(3, 2, [6, 2, 0, 0, 6, 3]), [0, 3, 0])
        self.assertEqual(prices(3, 1, [0, 6, 0]), [0, 0])

    def test_answer_is_a_list_of_ints(self):
        for n, m in SIZES:
            for v in ([0] * (n * m), numbers_from(1, n * m, 7)):
                answer = prices(n, m, v)
                self.assertIs(type(answer), list)
                self.assertEqual([type(number) for number in answer], [int] * (m + 1))


class SizesRefused(unittest.TestCase):
    def check(self, n, m):
        answer = prices(n, m, [])
        self.assertEqual(answer, [-2], (n, m))
        self.assertIs(type(answer), list)
        self.assertIs(type(answer[0]), int)

    def test_n_out_of_range(self):
        for n in (LOWEST, -16, -1, 0, 17, 18, 100, HIGHEST):
            for m in (1, 2, 3, 16):
                self.check(n, m)

    def test_m_out_of_range(self):
        for m in (LOWEST, -16, -1, 0, 17, 18, 100, HIGHEST):
            for n in (1, 2, 3, 16):
                self.check(n, m)

    def test_both_out_of_range(self):
        for n in (LOWEST, -1, 0, 17, HIGHEST):
            for m in (LOWEST, -1, 0, 17, HIGHEST):
                self.check(n, m)


class NothingChangedOrKept(unittest.TestCase):
    calls = (
        (3, 2, [6, 0, 6, 4, 0, 3], [0, 5, 3]),
        (2, 2, [6, 0, 6, 4], [0, 2, 0]),
        (2, 2, [0, 5, 0, 4], [0, 0, 4]),
        (3, 1, [2, 6, 4], [0, 4]),
        (1, 3, [1, 2, 3], [0, 0, 0, 0]),
        (17, 1, [], [-2]),
        (1, HIGHEST, [], [-2]),
    )
    # Of best and pay, some with the very numbers of a call above.
    others = (
        (best, 2, 1, [0, 5, 0, 4], [0, 5]),
        (pay, 2, 1, [0, 5, 0, 4], [0, 4]),
        (best, 2, 2, [0, 5, 1, 6, 0, 2, 4, 7], [0, 9]),
        (pay, 2, 2, [0, 5, 1, 6, 0, 2, 4, 7], [0, 4]),
        (best, 2, 1, [0, 3, 1, 3], [-3]),
        (pay, 9, 1, [], [-2]),
    )

    def test_v_is_as_it_was(self):
        for n, m, v, answer in self.calls:
            handed = list(v)
            self.assertEqual(prices(n, m, handed), answer)
            self.assertEqual(handed, v)

    def test_v_is_not_changed_for_a_while(self):
        for n, m, v, answer in self.calls:
            self.assertEqual(prices(n, m, FixedList(v)), answer)

    def test_same_call_again_answers_the_same(self):
        for first, second in itertools.product(self.calls, repeat=2):
            for n, m, v, answer in (first, first, second, first):
                self.assertEqual(prices(n, m, v), answer)

    def test_calls_of_best_and_pay_between_change_nothing(self):
        for (n, m, v, answer), other in itertools.product(self.calls, self.others):
            function, other_n, other_m, other_v, other_answer = other
            self.assertEqual(prices(n, m, v), answer)
            self.assertEqual(function(other_n, other_m, other_v), other_answer)
            self.assertEqual(prices(n, m, v), answer)
            self.assertEqual(function(other_n, other_m, other_v), other_answer)

    def test_v_changed_between_calls_is_read_anew(self):
        v = [5, 3]
        self.assertEqual(prices(2, 1, v), [0, 3])
        v[1] = 4
        self.assertEqual(prices(2, 1, v), [0, 4])

    def test_answer_is_the_callers_own(self):
        for n, m, v, answer in self.calls:
            prices(n, m, v).append(77)
            self.assertEqual(prices(n, m, v), answer)

    def test_nothing_is_printed(self):
        out, err = io.StringIO(), io.StringIO()
        with contextlib.redirect_stdout(out), contextlib.redirect_stderr(err):
            for n, m, v, answer in self.calls:
                prices(n, m, v)
        self.assertEqual(out.getvalue() + err.getvalue(), "")


if __name__ == "__main__":
    unittest.main()
