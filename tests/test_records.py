"""lost, told, state, sums and passes: what a desk has counted and holds."""

import unittest
from fractions import Fraction
from math import floor
from random import Random

from tests.helper import (BOUND, MOST_COMING, MOST_WATTS, WATT, away, back, binds, check_nothing_changed, check_refused,
                          giver, last, lost, order, passes, quarter, quarter_micros, ramps, rule, run, state, sums,
                          told, told_of)


def losses(how_many, *calls):
    """What lost tells of each order behind the calls: its loss and in how many quarters it was in force."""
    answered = run(*calls, *[lost(number) for number in range(how_many)])[len(calls):]
    return [(answer[0], *answer[2:]) for answer in answered]


class Lost(unittest.TestCase):
    """Promise 5, and how lost tells it."""

    def test_before_any_quarter(self):
        self.assertEqual(last(giver(), order(8, 0, 9, 4), lost(0)), told(0, 0))

    def test_own_losses_are_added_up_over_quarters(self):
        calls = [giver(), order(8, 0, 9, 4), quarter(10), lost(0), quarter(7), lost(0), quarter(4), lost(0), quarter(0),
                 lost(0)]
        self.assertEqual(run(*calls)[3::2], [told(6, 1), told(9, 2), told(9, 3), told(9, 4)])

    def test_an_order_loses_what_it_alone_keeps_back(self):
        calls = [giver(), giver(kind=1), order(0, 0, 9, 4), order(8, 0, 9, 15), quarter(10, 10)]
        self.assertEqual(losses(2, *calls), [(1, 1), (0, 1)])
        self.assertEqual(losses(2, *calls, quarter(10, 13)), [(1, 2), (2, 2)])

    def test_two_that_keep_back_the_same_lose_nothing_each(self):
        calls = [giver(), order(0, 0, 9, 4), order(0, 0, 9, 4), order(0, 0, 9, 6), quarter(10)]
        self.assertEqual(losses(3, *calls), [(0, 1), (0, 1), (0, 1)])
        self.assertEqual(losses(3, *calls, back(0), quarter(10)), [(0, 1), (2, 2), (0, 2)])
        self.assertEqual(losses(2, giver(), order(0, 0, 9, 4), order(8, 0, 9, 4), quarter(10)), [(0, 1), (0, 1)])

    def test_one_that_comes_late_counts_from_when_it_comes(self):
        calls = [giver(), quarter(10), quarter(10), order(8, 0, 9, 4)]
        self.assertEqual(losses(1, *calls), [(0, 0)])
        self.assertEqual(losses(1, *calls, quarter(10)), [(6, 1)])

    def test_one_that_is_over_counts_no_more(self):
        calls = [giver(), order(8, 1, 3, 4)]
        for count, expected in enumerate([(0, 0), (0, 0), (6, 1), (12, 2), (12, 2)]):
            self.assertEqual(losses(1, *calls, *[quarter(10)] * count), [expected])

    def test_one_that_is_taken_back_counts_no_more(self):
        calls = [giver(), order(8, 0, 9, 4), quarter(10), back(0)]
        self.assertEqual(losses(1, *calls), [(6, 1)])
        self.assertEqual(losses(1, *calls, quarter(10)), [(6, 1)])
        self.assertEqual(losses(1, giver(), order(8, 0, 9, 4), back(0), quarter(10)), [(0, 0)])

    def test_the_plants_up_still_holds_without_it(self):
        self.assertEqual(losses(1, giver(), ramps(7, BOUND), order(8, 0, 9, 4), quarter(10)), [(3, 1)])
        self.assertEqual(losses(1, giver(), ramps(4, BOUND), order(8, 0, 9, 4), quarter(10)), [(0, 1)])

    def test_its_limit_as_it_is_brought_down_counts(self):
        self.assertEqual(losses(1, giver(), quarter(10), ramps(BOUND, 3), order(8, 0, 9, 0), quarter(10)), [(3, 1)])

    def test_what_they_could_give_counts_not_what_comes_in(self):
        calls = [giver(up=6), giver(), order(0, 0, 9, 4), away(1, 1), quarter(10, 50)]
        self.assertEqual(losses(1, *calls), [(2, 1)])

    def test_the_rule_does_not_matter(self):
        for k in (0, 1):
            calls = [giver(worth=3), giver(kind=1), rule(k), order(1, 0, 9, 4), order(8, 0, 9, 11), quarter(10, 10)]
            self.assertEqual(losses(2, *calls), [(0, 1), (3, 1)])

    def test_a_refused_quarter_counts_nothing(self):
        self.assertEqual(losses(1, giver(), order(8, 0, 9, 4), quarter(), quarter(9, 9)), [(0, 0)])

    def test_asking_counts_nothing(self):
        self.assertEqual(losses(1, giver(), order(8, 0, 9, 4), binds(10), lost(0)), [(0, 0)])

    def test_the_greatest_losses(self):
        calls = [giver()] * 24 + [order(8, 0, BOUND, 0)] + [quarter_micros(*[MOST_COMING] * 24)] * 300
        self.assertEqual(losses(1, *calls), [(300 * 24 * MOST_WATTS, 300)])

    def test_refusals(self):
        before = [giver(), order(8, 0, 1, 4), order(0, 0, 9, 4), back(1), quarter(10)]
        for number in (2, 31, 32, BOUND):
            check_refused(self, before, lost(number), -1)
        self.assertEqual(last(lost(0)), [-1])
        check_nothing_changed(self, before, lost(0), told(6, 1))
        check_nothing_changed(self, before, lost(1), told(0, 0))


class Told(unittest.TestCase):
    def test_as_it_was_told(self):
        self.assertEqual(last(order(3, 5, 9, 40), told_of(0)), told(0, 3, 5, 9, 40, 0, -1))
        self.assertEqual(last(order(8, 0, BOUND, BOUND), order(0, BOUND - 1, BOUND, 0), told_of(1)),
                         told(0, 0, BOUND - 1, BOUND, 0, 0, -1))

    def test_when_it_came(self):
        calls = [order(8, 0, 9, 1), quarter(), order(8, 0, 9, 2), quarter(), quarter(), order(8, 5, 9, 3)]
        told_rows = run(*calls, told_of(0), told_of(1), told_of(2))[-3:]
        self.assertEqual(told_rows, [told(0, 8, 0, 9, 1, 0, -1), told(0, 8, 0, 9, 2, 1, -1), told(0, 8, 5, 9, 3, 3, -1)])

    def test_when_it_was_taken_back(self):
        self.assertEqual(last(order(8, 0, 9, 1), back(0), told_of(0)), told(0, 8, 0, 9, 1, 0, 0))
        calls = [order(8, 0, 9, 1), quarter(), order(1, 4, 9, 6), quarter(), back(1), quarter(), back(0)]
        self.assertEqual(run(*calls, told_of(0), told_of(1))[-2:],
                         [told(0, 8, 0, 9, 1, 0, 3), told(0, 1, 4, 9, 6, 1, 2)])

    def test_a_refused_back_leaves_it(self):
        calls = [order(8, 0, 2, 1), order(8, 0, 9, 1), back(1), quarter(), quarter(), back(0), back(1)]
        self.assertEqual(run(*calls, told_of(0), told_of(1))[-2:],
                         [told(0, 8, 0, 2, 1, 0, -1), told(0, 8, 0, 9, 1, 0, 0)])

    def test_its_limit_is_not_brought_down_there(self):
        self.assertEqual(last(giver(), quarter(100), ramps(0, 0), order(8, 0, 9, 5), told_of(0)),
                         told(0, 8, 0, 9, 5, 1, -1))

    def test_refusals(self):
        before = [giver(), order(8, 0, 9, 4), quarter(10), order(9, 0, 1, 1), back(0)]
        for number in (1, 31, 32, BOUND):
            check_refused(self, before, told_of(number), -1)
        self.assertEqual(last(told_of(0)), [-1])
        check_nothing_changed(self, before, told_of(0), told(0, 8, 0, 9, 4, 0, 1))


class State(unittest.TestCase):
    def test_before_quarter_0(self):
        self.assertEqual(last(giver(), state(0)), told(0, 0, 0, 0, 0))
        self.assertEqual(last(giver(), away(0, 1), state(0)), told(0, 0, 0, 0, 1))

    def test_one_that_runs(self):
        calls = [giver(), quarter(9), state(0), quarter(5), state(0), quarter(0), state(0)]
        self.assertEqual(run(*calls)[2::2], [told(1, 0, 9, 9, 0), told(1, 0, 5, 14, 0), told(1, 0, 0, 14, 0)])

    def test_one_that_waits(self):
        calls = [giver(start=5, stop=3, wait=3)]
        rows = [(4, (0, 0, 0, 0)), (5, (0, 1, 0, 0)), (9, (0, 2, 0, 0)), (4, (0, 0, 0, 0)), (5, (0, 1, 0, 0)),
                (5, (0, 2, 0, 0)), (6, (1, 0, 6, 6)), (3, (1, 0, 3, 9)), (2, (0, 0, 0, 9)), (5, (0, 1, 0, 9))]
        for watts, expected in rows:
            calls += [quarter(watts), state(0)]
            self.assertEqual(last(*calls), told(*expected, 0))

    def test_one_that_is_away(self):
        calls = [giver(), giver(start=5, wait=3), quarter(9, 9), away(0, 1), away(1, 1), state(0), state(1)]
        self.assertEqual(run(*calls)[-2:], [told(0, 0, 9, 9, 1), told(0, 0, 0, 0, 1)])
        calls += [quarter(9, 9), state(0), state(1)]
        self.assertEqual(run(*calls)[-2:], [told(0, 0, 0, 9, 1), told(0, 0, 0, 0, 1)])
        calls += [away(0, 0), away(1, 0), state(0), state(1)]
        self.assertEqual(run(*calls)[-2:], [told(0, 0, 0, 9, 0), told(0, 0, 0, 0, 0)])
        calls += [quarter(9, 9), state(0), state(1)]
        self.assertEqual(run(*calls)[-2:], [told(1, 0, 9, 18, 0), told(0, 1, 0, 0, 0)])

    def test_one_that_is_here_again_before_the_next_quarter(self):
        self.assertEqual(last(giver(), quarter(9), away(0, 1), away(0, 0), state(0)), told(0, 0, 9, 9, 0))

    def test_one_told_behind_a_quarter(self):
        calls = [giver(), quarter(9), giver(), state(1), quarter(9, 4), state(1)]
        self.assertEqual(run(*calls)[3::2], [told(0, 0, 0, 0, 0), told(1, 0, 4, 4, 0)])

    def test_what_it_gave_is_its_share(self):
        calls = [giver(), giver(), order(8, 0, 9, 9), quarter(9, 9), state(0), state(1)]
        self.assertEqual(run(*calls)[-2:], [told(1, 0, 5, 5, 0), told(1, 0, 4, 4, 0)])
        self.assertEqual(last(giver(), order(0, 0, 9, 0), quarter(9), state(0)), told(1, 0, 0, 0, 0))

    def test_the_greatest_that_is_given(self):
        calls = [giver()] + [quarter_micros(MOST_COMING)] * 398 + [state(0)]
        self.assertEqual(last(*calls), told(1, 0, MOST_WATTS, 398 * MOST_WATTS, 0))

    def test_refusals(self):
        before = [giver(start=2, wait=3), giver(), quarter(10, 10), order(8, 0, 9, 5)]
        for number in (2, 23, 24, BOUND):
            check_refused(self, before, state(number), -1)
        self.assertEqual(last(state(0)), [-1])
        check_nothing_changed(self, before, state(0), told(0, 1, 0, 0, 0))
        check_nothing_changed(self, before, state(1), told(1, 0, 10, 10, 0))


class Sums(unittest.TestCase):
    def test_before_quarter_0(self):
        self.assertEqual(last(sums()), told(0, 0, 0, 0))
        self.assertEqual(last(giver(), order(8, 0, 9, 1), sums()), told(0, 0, 0, 0))

    def test_without_givers(self):
        self.assertEqual(last(quarter(), quarter(), sums()), told(2, 0, 0, 0))

    def test_added_up_over_quarters(self):
        calls = [giver(), giver(), order(8, 0, 1, 10), quarter(20, 4), sums(), quarter(7, 8), sums()]
        self.assertEqual(run(*calls)[4::2], [told(1, 24, 10, 14), told(2, 39, 25, 14)])

    def test_what_two_orders_keep_back_together_is_there(self):
        calls = [giver(), order(8, 0, 9, 4), order(8, 0, 9, 4), quarter(10)]
        self.assertEqual(run(*calls, lost(0), lost(1), sums())[-3:], [told(0, 1), told(0, 1), told(1, 10, 4, 6)])

    def test_what_the_plants_up_keeps_back_is_there(self):
        self.assertEqual(last(giver(), ramps(4, 0), quarter(10), sums()), told(1, 10, 4, 6))

    def test_what_a_giver_could_not_give_is_not_there(self):
        calls = [giver(up=4), giver(most=3), giver(table=(0, 2)), giver(start=11), giver(), away(4, 1)]
        self.assertEqual(last(*calls, quarter(10, 10, 10, 10, 10), sums()), told(1, 15, 15, 0))

    def test_a_refused_quarter_and_could_count_nothing(self):
        self.assertEqual(last(giver(), quarter(), quarter(4, 4), [7, 1, 5 * WATT], sums()), told(0, 0, 0, 0))

    def test_the_greatest(self):
        calls = [giver()] * 24 + [order(8, 1, BOUND, 0)] + [quarter_micros(*[MOST_COMING] * 24)] * 300
        whole = 24 * MOST_WATTS
        self.assertEqual(last(*calls, sums()), told(300, 300 * whole, whole, 299 * whole))

    def test_it_only_asks(self):
        check_nothing_changed(self, [giver(), order(8, 0, 9, 4), quarter(10)], sums(), told(1, 10, 4, 6))


class Passes(unittest.TestCase):
    def check(self, table, most, expected):
        asked = [passes(0, micros) for micros, watts in expected]
        self.assertEqual(run(giver(most=most, table=table), *asked)[1:], [[watts] for micros, watts in expected])

    def test_along_a_table(self):
        table = (10, 4, 20, 8, 40, 3)
        before_first = [(3 * WATT, 0), (4 * WATT, 0), (5 * WATT, 1), (9 * WATT + 999999, 5)]
        at_points = [(10 * WATT, 6), (20 * WATT, 12), (40 * WATT, 37)]
        between = [(15 * WATT, 9), (12 * WATT + 500000, 7), (30 * WATT, 24), (32 * WATT, 27)]
        behind_last = [(40 * WATT + 999999, 37), (41 * WATT, 38), (1000 * WATT, 997)]
        self.check(table, MOST_WATTS, before_first + at_points + between + behind_last)

    def test_one_point_is_the_same_everywhere(self):
        self.check((7, 3), MOST_WATTS, [(0, 0), (3 * WATT, 0), (4 * WATT, 1), (7 * WATT, 4), (20 * WATT, 17)])

    def test_0_where_the_loss_is_greater(self):
        self.check((0, 5, 10, 20), MOST_WATTS, [(0, 0), (WATT, 0), (10 * WATT, 0), (20 * WATT, 0), (21 * WATT, 1)])
        self.check((0, BOUND), MOST_WATTS, [(0, 0), (MOST_COMING, 0)])

    def test_its_most(self):
        self.check((0, 0), 12, [(11 * WATT, 11), (12 * WATT, 12), (13 * WATT, 12), (MOST_COMING, 12)])
        self.check((0, 0), 0, [(0, 0), (9 * WATT, 0)])
        self.check((0, 0), MOST_WATTS, [(MOST_COMING, MOST_WATTS)])

    def test_rounded_down_once(self):
        self.check((0, 0, 3, 1), MOST_WATTS, [(WATT, 0), (WATT + 499999, 0), (WATT + 500000, 1), (2 * WATT, 1),
                                              (3 * WATT - 1, 1), (3 * WATT, 2)])
        self.check((0, 0, 3, 2), MOST_WATTS, [(2 * WATT, 0), (3 * WATT - 1, 0), (3 * WATT, 1)])
        self.check((0, 1, 3, 0), MOST_WATTS, [(749999, 0), (750000, 0), (1500000, 1), (1499999, 0)])

    def test_a_fall_of_the_table(self):
        self.check((0, 10, 10, 0), MOST_WATTS, [(5 * WATT, 0), (5 * WATT + 499999, 0), (5 * WATT + 500000, 1),
                                                (6 * WATT, 2), (10 * WATT, 10)])

    def test_whether_it_runs_or_what_it_gave_does_not_matter(self):
        before = [giver(start=50, stop=50, wait=5, up=1), passes(0, 9 * WATT), quarter(60), passes(0, 9 * WATT),
                  away(0, 1), order(8, 0, 9, 0), ramps(0, 0), passes(0, 9 * WATT)]
        self.assertEqual([answer for call, answer in zip(before, run(*before)) if call[0] == 19], [[9]] * 3)

    def test_each_giver_by_its_own(self):
        calls = [giver(table=(0, 1)), giver(table=(0, 2)), passes(1, 9 * WATT), passes(0, 9 * WATT)]
        self.assertEqual(run(*calls)[2:], [[7], [8]])

    def test_by_chance_with_fractions(self):
        random = Random(41)
        for case in range(300):
            great = random.choice((20, 100000, BOUND))
            wheres = sorted({random.randrange(great + 1) for number in range(random.randrange(1, 25))})
            points = [(where, random.randrange(random.choice((2, great)))) for where in wheres]
            most = random.choice((MOST_WATTS, random.randrange(20)))
            asked = [random.randrange(min(2 * great * WATT, MOST_COMING) + 1) for number in range(20)]
            asked += [min(where * WATT + more, MOST_COMING) for where in wheres for more in (0, 1)]
            calls = [giver(most=most, table=[number for point in points for number in point])]
            answered = run(*calls, *[passes(0, micros) for micros in asked])[1:]
            for micros, answer in zip(asked, answered):
                self.assertEqual(answer, [self.passed(points, most, Fraction(micros, WATT))], (calls, micros))

    def passed(self, points, most, watts):
        lower = [point for point in points if point[0] <= watts][-1:] or points[:1]
        upper = [point for point in points if point[0] > watts][:1] or points[-1:]
        value = Fraction(lower[0][1])
        if lower != upper:
            value += (watts - lower[0][0]) * Fraction(upper[0][1] - lower[0][1], upper[0][0] - lower[0][0])
        return min(max(floor(watts - value), 0), most)

    def test_refusals(self):
        before = [giver(), giver(table=(0, 2)), quarter(5, 5)]
        for number in (2, 23, 24, BOUND):
            check_refused(self, before, passes(number, 5), -1)
        self.assertEqual(last(passes(0, 0)), [-1])
        check_nothing_changed(self, before, passes(1, 9 * WATT), [7])


if __name__ == '__main__':
    unittest.main()
