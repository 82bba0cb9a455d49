"""quarter and rule: what is given, and by which rule."""

import unittest

from tests.helper import (BOUND, MOST_COMING, MOST_WATTS, check_refused, giver, last, limits, order, parts, quarter,
                          quarter_micros, ramps, rule, run, told)


class Quarter(unittest.TestCase):
    def test_what_is_given_and_each_share(self):
        self.assertEqual(last(giver(), giver(table=(0, 2)), giver(most=4), quarter(9, 9, 9)), told(20, 9, 7, 4))

    def test_without_givers(self):
        self.assertEqual(run(quarter(), order(8, 0, 1, 5), order(8, 0, 2, 5)), [told(0), [-2], [0]])

    def test_a_row_of_another_length_is_refused(self):
        before = [giver(start=5, wait=2), giver(up=3), ramps(20, 4), quarter(9, 9), order(8, 0, 9, 2)]
        for coming in ([], [9], [9, 9, 9], [9] * 19000):
            with self.subTest(length=len(coming)):
                check_refused(self, before, quarter(*coming), -1)
        self.assertEqual(last(quarter(0)), [-1])

    def test_a_giver_told_between_two(self):
        self.assertEqual(run(giver(up=3), quarter(9), giver(up=3), quarter(9, 9))[1:], [told(3, 3), [1], told(9, 6, 3)])

    def test_the_greatest_that_comes_in(self):
        calls = [giver()] * 24 + [quarter_micros(*[MOST_COMING] * 24), limits()]
        answered = run(*calls)
        self.assertEqual(answered[24], told(24 * MOST_WATTS, *[MOST_WATTS] * 24))
        self.assertEqual(answered[25], told(0, *[-1] * 8, 24 * MOST_WATTS + BOUND))


class Rule(unittest.TestCase):
    GIVERS = [giver(worth=1), giver(worth=9), giver(worth=9), order(8, 0, 99, 10)]

    def test_the_fairest_told_at_first(self):
        self.assertEqual(last(*self.GIVERS, quarter(6, 6, 6)), told(10, 4, 3, 3))

    def test_each_rule_from_when_it_is_told(self):
        calls = [rule(1), quarter(6, 6, 6), rule(1), quarter(6, 6, 6), rule(0), quarter(6, 6, 6)]
        self.assertEqual(run(*self.GIVERS, *calls)[4:], [[0], told(10, 0, 6, 4), [0], told(10, 0, 6, 4), [0],
                                                         told(10, 4, 3, 3)])

    def test_it_does_not_matter_for_parts(self):
        self.assertEqual(last(*self.GIVERS, rule(1), parts(0, 6, 6, 6)), told(10, 4, 3, 3))
        self.assertEqual(last(*self.GIVERS, rule(0), parts(1, 6, 6, 6)), told(10, 0, 6, 4))

    def test_refusals(self):
        for k in (2, BOUND):
            check_refused(self, self.GIVERS, rule(k), -1)
            check_refused(self, self.GIVERS + [rule(1)], rule(k), -1)


if __name__ == '__main__':
    unittest.main()
