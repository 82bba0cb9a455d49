"""order, back, ramps and limits: what is taken and refused, when orders are in force, what the limits are."""

import unittest

from tests.helper import (BOUND, NONE, away, back, check_refused, giver, last, limits, order, parts, quarter, ramps,
                          run, told)


def bounds(plant=BOUND, **classes):
    """The answer of limits; classes as c0, c1 .."""
    return told(0, *[classes.get(f'c{kind}', NONE) for kind in range(8)], plant)


def given(*calls):
    """What is given in all in each quarter among the calls."""
    return [answer[0] for call, answer in zip(calls, run(*calls)) if call[0] == 6]


class OrderTaken(unittest.TestCase):
    def test_orders_are_numbered_from_0(self):
        self.assertEqual(run(order(0, 0, 1, 5), order(9, 0, 1, 5), order(8, 3, 9, 5)), [[0], [-1], [1]])

    def test_the_greatest_and_least_values_are_taken(self):
        self.assertEqual(run(order(8, BOUND - 1, BOUND, BOUND), order(0, 0, 1, 0)), [[0], [1]])

    def test_wrong_numbers_are_refused(self):
        before = [giver(), quarter(20), order(0, 0, 9, 3)]
        for wrong in [order(9, 0, 5, 1), order(BOUND, 0, 5, 1), order(0, 5, 5, 1), order(0, 6, 5, 1),
                      order(8, BOUND, BOUND, 1), order(8, 3, 0, 1), order(8, 0, 0, 1)]:
            with self.subTest(order=wrong):
                check_refused(self, before, wrong, -1)

    def test_one_that_would_be_over_is_refused(self):
        before = [giver(), quarter(20), quarter(20), order(0, 0, 9, 3)]
        check_refused(self, before, order(8, 0, 2, 1), -2)
        check_refused(self, before, order(8, 1, 2, 1), -2)
        check_refused(self, before, order(8, 0, 1, 1), -2)
        self.assertEqual(last(*before, order(8, 0, 3, 1)), [1])
        self.assertEqual(last(*before, order(8, 2, 3, 1)), [1])

    def test_32_orders_those_over_or_taken_back_among_them(self):
        orders = [order(number % 9, 0, 1, 5) for number in range(32)]
        self.assertEqual(run(*orders), [[number] for number in range(32)])
        check_refused(self, [giver()] + orders, order(8, 0, 5, 1), -3)
        check_refused(self, [giver()] + orders + [back(3), quarter(20)], order(8, 0, 5, 1), -3)

    def test_the_first_refusal_that_holds_is_told(self):
        full = [order(8, 0, 9, 5)] * 32 + [quarter()] * 4
        self.assertEqual(last(*full, order(9, 0, 2, 5)), [-1])
        self.assertEqual(last(*full, order(8, 2, 2, 5)), [-1])
        self.assertEqual(last(*full, order(8, 0, 4, 5)), [-2])
        self.assertEqual(last(*full, order(8, 0, 5, 5)), [-3])


class InForce(unittest.TestCase):
    def test_from_its_first_quarter_until_before_its_end(self):
        calls = [giver(), order(8, 1, 3, 4)] + [quarter(10)] * 4
        self.assertEqual(given(*calls), [10, 4, 4, 10])

    def test_limits_tell_its_first_and_its_last_quarter(self):
        calls = [giver(kind=3), order(3, 1, 3, 4)] + [limits(), quarter(10)] * 4
        told_limits = [answer for call, answer in zip(calls, run(*calls)) if call[0] == 8]
        self.assertEqual([answer[5] for answer in told_limits], [NONE, 4, 4, NONE])

    def test_one_that_comes_late_is_in_force_from_when_it_comes(self):
        calls = [giver(), quarter(10), quarter(10), order(8, 0, 4, 4), quarter(10), quarter(10), quarter(10)]
        self.assertEqual(given(*calls), [10, 10, 4, 4, 10])

    def test_one_that_is_taken_back_is_not_from_then_on(self):
        calls = [giver(), order(8, 0, 9, 4), quarter(10), back(0), quarter(10)]
        self.assertEqual(given(*calls), [4, 10])

    def test_one_taken_back_ahead_never_is(self):
        calls = [giver(), order(8, 1, 9, 4), back(0), quarter(10), quarter(10)]
        self.assertEqual(given(*calls), [10, 10])

    def test_the_least_of_a_scope_counts_and_the_next_least_when_it_is_gone(self):
        orders = [order(2, 0, 9, 8), order(2, 0, 9, 5), order(2, 0, 9, 6)]
        going = [quarter(10), back(1), quarter(10), back(2), quarter(10), back(0), quarter(10)]
        self.assertEqual(given(giver(kind=2), *orders, *going), [5, 6, 8, 10])

    def test_a_class_order_holds_for_that_class_alone(self):
        calls = [giver(kind=0), giver(kind=7), giver(kind=7), order(7, 0, 9, 5), quarter(10, 10, 10)]
        self.assertEqual(last(*calls), told(15, 10, 3, 2))


class Back(unittest.TestCase):
    def test_refusals(self):
        before = [giver(), order(8, 0, 1, 5), order(8, 0, 9, 6), order(0, 5, 9, 6), quarter(10), back(1)]
        check_refused(self, before, back(3), -1)
        check_refused(self, before, back(BOUND), -1)
        check_refused(self, before, back(1), -2)
        check_refused(self, before, back(0), -2)
        check_refused(self, before + [back(2)], back(2), -2)
        self.assertEqual(last(back(0)), [-1])

    def test_up_to_its_last_quarter(self):
        self.assertEqual(last(order(8, 0, 2, 5), quarter(), back(0)), [0])
        self.assertEqual(last(order(8, 0, 2, 5), quarter(), quarter(), back(0)), [-2])

    def test_a_new_one_gets_a_new_number(self):
        self.assertEqual(last(order(8, 0, 2, 5), back(0), order(8, 0, 2, 5)), [1])


class Limits(unittest.TestCase):
    def test_of_a_new_desk(self):
        self.assertEqual(last(limits()), bounds())

    def test_each_scope(self):
        orders = [order(kind, 0, 5, 10 + kind) for kind in range(9)]
        self.assertEqual(last(*orders, limits()), told(0, 10, 11, 12, 13, 14, 15, 16, 17, 18))

    def test_a_limit_of_0_and_the_greatest(self):
        self.assertEqual(last(order(0, 0, 5, 0), order(1, 0, 5, BOUND), limits()), bounds(c0=0, c1=BOUND))

    def test_the_plant_may_give_up_more_than_all_gave(self):
        calls = [giver(), giver(kind=1), ramps(30, 5), limits(), quarter(20, 30), limits(), quarter(20, 30), limits()]
        self.assertEqual(run(*calls)[3:], [bounds(30), told(30, 15, 15), bounds(60), told(50, 20, 30), bounds(80)])

    def test_without_ramps_it_is_the_greatest_number_more(self):
        self.assertEqual(last(giver(), quarter(20), limits()), bounds(BOUND + 20))

    def test_the_lesser_of_up_and_the_order_counts(self):
        self.assertEqual(last(ramps(30, 5), order(8, 0, 9, 29), limits()), bounds(29))
        self.assertEqual(last(ramps(30, 5), order(8, 0, 9, 31), limits()), bounds(30))

    def test_up_0_holds_the_plant_where_it_is(self):
        self.assertEqual(given(giver(), ramps(0, 0), quarter(9)), [0])
        self.assertEqual(given(giver(), quarter(6), ramps(0, 0), quarter(9), quarter(4), quarter(9)), [6, 6, 4, 4])

    def test_ramps_hold_from_when_they_are_told_with_the_greatest_values(self):
        calls = [giver(), ramps(3, 0), quarter(9), ramps(BOUND, BOUND), quarter(9), limits()]
        self.assertEqual(run(*calls)[2:], [told(3, 3), [0], told(9, 9), bounds(BOUND + 9)])

    def test_asking_changes_nothing(self):
        self.assertEqual(given(giver(), ramps(3, 0), limits(), quarter(9), limits(), limits(), quarter(9)), [3, 6])


class BroughtDown(unittest.TestCase):
    def test_no_faster_than_down(self):
        calls = [giver(), quarter(100), ramps(BOUND, 30), order(8, 0, 9, 5)] + [quarter(100)] * 5
        self.assertEqual(given(*calls), [100, 70, 40, 10, 5, 5])

    def test_limits_tell_it(self):
        calls = [giver(kind=1), quarter(100), ramps(BOUND, 30), order(1, 0, 9, 5), order(8, 0, 9, 6), limits()]
        self.assertEqual(last(*calls), bounds(70, c1=70))
        calls = [giver(kind=1), quarter(100), ramps(BOUND, 95), order(1, 0, 9, 5), order(8, 0, 9, 6), limits()]
        self.assertEqual(last(*calls), bounds(6, c1=5))

    def test_from_what_its_own_scope_gave(self):
        calls = [giver(kind=1), giver(kind=2), giver(kind=1), quarter(40, 50, 20), ramps(BOUND, 10)]
        orders = [order(1, 0, 9, 0), order(2, 0, 9, 0), order(3, 0, 9, 4), order(8, 0, 9, 0)]
        self.assertEqual(last(*calls, *orders, limits()), bounds(100, c1=50, c2=40, c3=4))

    def test_of_several_the_least_as_they_are_brought_down(self):
        calls = [giver(), quarter(100), ramps(BOUND, 30), order(0, 0, 9, 5), order(0, 0, 9, 80), limits()]
        self.assertEqual(last(*calls), bounds(BOUND + 100, c0=70))
        calls = [giver(), quarter(100), ramps(BOUND, 10), order(0, 0, 9, 5), order(0, 0, 9, 80), limits()]
        self.assertEqual(last(*calls), bounds(BOUND + 100, c0=90))

    def test_down_0_leaves_what_was_given(self):
        calls = [giver(), quarter(100), ramps(BOUND, 0), order(8, 0, 9, 5), quarter(100), quarter(60), quarter(100)]
        self.assertEqual(given(*calls), [100, 100, 60, 60])

    def test_before_quarter_0_nothing_was_given(self):
        self.assertEqual(last(giver(), ramps(BOUND, 0), order(0, 0, 9, 5), limits()), bounds(c0=5))

    def test_one_that_is_away_counts_with_what_it_gave(self):
        calls = [giver(), giver(), quarter(60, 40), ramps(BOUND, 30), order(0, 0, 9, 5), away(0, 1)]
        self.assertEqual(last(*calls, limits()), bounds(BOUND + 100, c0=70))
        self.assertEqual(last(*calls, quarter(60, 40), limits()), bounds(BOUND + 40, c0=10))

    def test_a_giver_told_later_gave_nothing(self):
        calls = [giver(), quarter(60), giver(), ramps(5, 30), order(0, 0, 9, 5)]
        self.assertEqual(last(*calls, limits()), bounds(65, c0=30))
        self.assertEqual(last(*calls, parts(0, 60, 60)), told(30, 15, 15))


if __name__ == '__main__':
    unittest.main()
