"""binds and clears: which orders in force would keep something back, and which limits are too low."""

import unittest

from tests.helper import (BOUND, MOST_WATTS, back, binds, check_nothing_changed, check_refused, clears, giver, last,
                          order, quarter, ramps, run, told)


def both(calls, *able):
    """The numbers that binds and clears tell behind the calls."""
    answered = run(*calls, binds(*able), clears(*able))[-2:]
    for answer in answered:
        assert answer[0] == answer[1] == len(answer) - 2, answer
    return answered[0][2:], answered[1][2:]


class Both(unittest.TestCase):
    def test_how_they_answer(self):
        calls = [giver(), order(8, 0, 9, 30), order(0, 5, 9, 10)]
        self.assertEqual(run(*calls, binds(40), clears(40))[-2:], [told(1, 0), told(1, 0)])
        self.assertEqual(run(*calls, binds(20), clears(20))[-2:], [told(0), told(0)])

    def test_without_orders_or_givers(self):
        self.assertEqual(run(binds(), clears()), [told(0), told(0)])
        self.assertEqual(both([giver()], MOST_WATTS), ([], []))
        self.assertEqual(both([order(8, 0, 9, 0), order(3, 0, 9, 0)]), ([], []))

    def test_a_limit_just_at_what_they_could_give(self):
        for scope in (0, 8):
            calls = [giver(), giver(), order(scope, 0, 9, 30)]
            self.assertEqual(both(calls, 15, 16), ([0], [0]))
            self.assertEqual(both(calls, 15, 15), ([], []))
            self.assertEqual(both(calls, 15, 14), ([], []))

    def test_a_class_counts_its_own_givers_alone(self):
        calls = [giver(kind=1), giver(kind=2), giver(kind=1), order(1, 0, 9, 30), order(2, 0, 9, 30), order(3, 0, 9, 0)]
        self.assertEqual(both(calls, 20, 20, 11), ([0], [0]))
        self.assertEqual(both(calls, 0, 31, 30), ([1], [1]))
        self.assertEqual(both(calls, 31, 31, 0), ([0, 1], [0, 1]))

    def test_orders_in_force_alone(self):
        calls = [giver(), order(8, 0, 2, 30), order(0, 1, 3, 20), order(0, 0, 9, 10), back(2)]
        self.assertEqual(both(calls, 40), ([0], [0]))
        self.assertEqual(both(calls + [quarter(40)], 40), ([1], [0, 1]))
        self.assertEqual(both(calls + [quarter(40)] * 2, 40), ([1], [1]))
        self.assertEqual(both(calls + [quarter(40)] * 3, 40), ([], []))

    def test_one_that_comes_late(self):
        calls = [giver(), quarter(40), quarter(40), order(8, 0, 3, 30)]
        self.assertEqual(both(calls, 40), ([0], [0]))
        self.assertEqual(both(calls + [quarter(40)], 40), ([], []))

    def test_equal_limits_twice(self):
        for scope in (0, 8):
            calls = [giver(), order(scope, 0, 9, 30), order(scope, 0, 9, 30)]
            self.assertEqual(both(calls, 40), ([], [0, 1]))
            self.assertEqual(both(calls + [back(0)], 40), ([1], [1]))

    def test_the_lower_of_two(self):
        calls = [giver(), order(0, 0, 9, 30), order(0, 0, 9, 20), order(0, 0, 9, 50)]
        self.assertEqual(both(calls, 40), ([1], [0, 1]))

    def test_a_class_and_the_plant(self):
        calls = [giver(kind=0), giver(kind=1), order(0, 0, 9, 4), order(8, 0, 9, 15)]
        self.assertEqual(both(calls, 10, 10), ([0], [0, 1]))
        self.assertEqual(both(calls, 10, 11), ([], [0, 1]))
        self.assertEqual(both(calls, 10, 12), ([1], [0, 1]))
        self.assertEqual(both(calls, 4, 12), ([1], [1]))
        self.assertEqual(both(calls, 5, 9), ([0], [0]))

    def test_a_class_that_keeps_back_what_the_plant_would_not_take(self):
        calls = [giver(kind=0), giver(kind=1), order(0, 0, 9, 4), order(8, 0, 9, 8)]
        self.assertEqual(both(calls, 10, 3), ([0], [0, 1]))
        self.assertEqual(both(calls, 10, 4), ([], [0, 1]))

    def test_the_plants_up_is_no_order(self):
        calls = [giver(), ramps(3, 0), order(8, 0, 9, 5), order(0, 0, 9, 4)]
        self.assertEqual(both(calls, 4), ([], []))
        self.assertEqual(both(calls, 5), ([], [1]))
        self.assertEqual(both(calls, 6), ([], [0, 1]))
        calls = [giver(), ramps(6, 0), order(8, 0, 9, 5)]
        self.assertEqual(both(calls, 7), ([0], [0]))

    def test_numbers_rising(self):
        orders = [order(scope, 0, 9, 3) for scope in (7, 2, 5, 0, 3, 1, 6, 4)]
        calls = [giver(kind=kind) for kind in range(8)] + orders
        self.assertEqual(both(calls, *[4] * 8), (list(range(8)), list(range(8))))
        self.assertEqual(both(calls + [back(2), back(5)], *[4] * 8), ([0, 1, 3, 4, 6, 7], [0, 1, 3, 4, 6, 7]))
        self.assertEqual(both(calls, 4, 3, 3, 4, 3, 3, 3, 4), ([0, 3, 4], [0, 3, 4]))

    def test_32_orders(self):
        calls = [giver(kind=kind) for kind in range(8)] + [order(number % 8, 0, 9, 5) for number in range(32)]
        self.assertEqual(both(calls, *[MOST_WATTS] * 8), ([], list(range(32))))

    def test_the_greatest_limits(self):
        calls = [giver(), order(8, 0, BOUND, BOUND), order(0, 0, BOUND, BOUND), order(8, BOUND - 1, BOUND, 0)]
        self.assertEqual(both(calls, MOST_WATTS), ([], []))


class BroughtDown(unittest.TestCase):
    def test_a_limit_as_it_is_brought_down(self):
        for scope in (0, 8):
            calls = [giver(), quarter(100), ramps(BOUND, 30), order(scope, 0, 9, 5)]
            self.assertEqual(both(calls, 71), ([0], [0]))
            self.assertEqual(both(calls, 70), ([], []))
            self.assertEqual(both(calls + [quarter(100)], 70), ([0], [0]))

    def test_of_what_its_own_scope_gave(self):
        calls = [giver(kind=1), giver(kind=2), quarter(60, 40), ramps(BOUND, 30),
                 order(1, 0, 9, 5), order(2, 0, 9, 5), order(8, 0, 9, 5)]
        self.assertEqual(both(calls, 30, 10), ([], []))
        self.assertEqual(both(calls, 31, 11), ([0, 1], [0, 1]))
        self.assertEqual(both(calls, 31, 40), ([0, 1], [0, 1, 2]))
        self.assertEqual(both(calls, 60, 11), ([0, 1], [0, 1, 2]))

    def test_two_that_are_brought_down_to_the_same(self):
        calls = [giver(), quarter(100), ramps(BOUND, 30), order(0, 0, 9, 5), order(0, 0, 9, 60)]
        self.assertEqual(both(calls, 80), ([], [0, 1]))
        self.assertEqual(both(calls + [ramps(BOUND, 45)], 80), ([0], [0, 1]))


class Refusals(unittest.TestCase):
    BEFORE = [giver(), giver(kind=1), order(8, 0, 9, 9), order(0, 0, 9, 4), quarter(8, 8)]

    def test_rows_that_are_not_such(self):
        for wrong in ([], [5], [5, 5, 5], [5, MOST_WATTS + 1], [BOUND, 0], [0] * 900):
            check_refused(self, self.BEFORE, binds(*wrong), -1)
            check_refused(self, self.BEFORE, clears(*wrong), -1)
        self.assertEqual(last(binds(0)), [-1])
        self.assertEqual(last(clears(0)), [-1])

    def test_the_greatest_row(self):
        self.assertEqual(both(self.BEFORE, MOST_WATTS, MOST_WATTS), ([0], [0, 1]))

    def test_they_only_ask(self):
        check_nothing_changed(self, self.BEFORE, binds(9, 9), told(1, 0))
        check_nothing_changed(self, self.BEFORE, clears(9, 9), told(2, 0, 1))


if __name__ == '__main__':
    unittest.main()
