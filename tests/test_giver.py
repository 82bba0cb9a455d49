"""giver, away and could: what is taken and refused, tables, running and standing, the giver's own up."""

import unittest

from tests.helper import (BOUND, MOST_COMING, MOST_WATTS, WATT, away, check_refused, could, could_micros, giver, last,
                          order, quarter, quarter_micros, run, told)


def passed(table, micros, most=MOST_WATTS):
    """What a giver that runs at once passes."""
    return last(giver(most=most, table=table), could_micros(micros))[0]


class GiverTaken(unittest.TestCase):
    def test_givers_are_numbered_from_0(self):
        self.assertEqual(run(giver(), giver(kind=7), giver(worth=3)), [[0], [1], [2]])

    def test_a_refused_one_takes_no_number(self):
        self.assertEqual(run(giver(), giver(kind=8), giver()), [[0], [-1], [1]])

    def test_the_greatest_values_are_taken(self):
        table = []
        for point in range(24):
            table += [BOUND - 23 + point, BOUND]
        self.assertEqual(last(giver(7, 10000000, 10000000, 10000000, 96, 10000000, 65535, table)), [0])

    def test_the_least_values_are_taken(self):
        self.assertEqual(last(giver(0, 0, 0, 0, 1, 0, 0, (0, 0))), [0])

    def test_the_first_values_beyond_are_refused(self):
        beyond = [dict(kind=8), dict(most=10000001), dict(start=10000001), dict(up=10000001), dict(stop=1),
                  dict(start=5, stop=6), dict(wait=0), dict(wait=97), dict(worth=65536)]
        beyond += [{name: BOUND} for name in ('kind', 'most', 'start', 'stop', 'wait', 'up', 'worth')]
        for values in beyond:
            with self.subTest(values=values):
                check_refused(self, [giver(), quarter(20)], giver(**values), -1)

    def test_rows_that_are_no_tables_are_refused(self):
        long = [number for point in range(25) for number in (point, 1)]
        rows = [[], [5], [0, 0, 1], [3, 0, 3, 0], [3, 0, 2, 0], [0, 0, 4, 0, 4, 1], [0, 0, 5, 1, 3, 1], long,
                [7] * 19000]
        for table in rows:
            with self.subTest(length=len(table)):
                check_refused(self, [giver(), quarter(20)], giver(table=table), -2)

    def test_24_points_are_taken(self):
        self.assertEqual(last(giver(table=[number for point in range(24) for number in (point, 1)])), [0])

    def test_how_much_may_fall(self):
        self.assertEqual(last(giver(table=(0, 9, 1, 5, 2, 7))), [0])

    def test_24_givers(self):
        givers = [giver(kind=number % 8) for number in range(24)]
        self.assertEqual(run(*givers), [[number] for number in range(24)])
        check_refused(self, givers, giver(), -3)

    def test_the_first_refusal_that_holds_is_told(self):
        givers = [giver()] * 24
        self.assertEqual(last(*givers, giver(kind=8, table=())), [-1])
        self.assertEqual(last(*givers, giver(table=())), [-2])
        self.assertEqual(last(giver(wait=0, table=(1, 1, 1, 1))), [-1])
        self.assertEqual(last(*givers, giver(wait=0)), [-1])


class Passing(unittest.TestCase):
    TABLE = (10, 2, 20, 7)

    def test_before_the_first_point(self):
        self.assertEqual(passed(self.TABLE, 5 * WATT), 3)
        self.assertEqual(passed(self.TABLE, 10 * WATT - 1), 7)

    def test_at_a_point(self):
        self.assertEqual(passed(self.TABLE, 10 * WATT), 8)
        self.assertEqual(passed(self.TABLE, 20 * WATT), 13)
        self.assertEqual(passed((10, 2, 20, 7, 30, 1), 20 * WATT), 13)

    def test_between_two(self):
        self.assertEqual(passed(self.TABLE, 15 * WATT), 10)
        self.assertEqual(passed(self.TABLE, 12 * WATT), 9)
        self.assertEqual(passed((10, 7, 20, 2), 15 * WATT), 10)
        self.assertEqual(passed((0, 0, 10, 2, 20, 7), 5 * WATT), 4)

    def test_behind_the_last(self):
        self.assertEqual(passed(self.TABLE, 20 * WATT + 1), 13)
        self.assertEqual(passed(self.TABLE, 30 * WATT), 23)

    def test_one_point_is_the_same_everywhere(self):
        self.assertEqual([passed((10, 4), watts * WATT) for watts in (4, 9, 10, 11)], [0, 5, 6, 7])

    def test_rounded_down_once(self):
        self.assertEqual(passed(self.TABLE, 11400000), 8)
        self.assertEqual(passed(self.TABLE, 12200000), 9)
        self.assertEqual(passed((0, 0, 3, 1), 1500000), 1)
        self.assertEqual(passed((0, 0, 3, 1), 1499999), 0)
        self.assertEqual(passed((0, 3), 4 * WATT - 1), 0)

    def test_fractions_are_exact_at_the_bounds(self):
        table = (0, 0, BOUND, BOUND - MOST_WATTS)
        exact = 858993459 * 500000
        self.assertEqual([passed(table, exact + more) for more in (-1, 0, 1)], [999999, 1000000, 1000000])

    def test_0_if_the_loss_is_greater(self):
        self.assertEqual(passed((0, 5), 4 * WATT), 0)
        self.assertEqual(passed((0, BOUND), MOST_COMING), 0)
        self.assertEqual(passed((0, 5), 0), 0)

    def test_its_most_if_it_is_above(self):
        self.assertEqual([passed((0, 0), watts * WATT, 50) for watts in (49, 50, 51)], [49, 50, 50])
        self.assertEqual(passed((0, 0), MOST_COMING), MOST_WATTS)
        self.assertEqual(passed((0, 0), MOST_COMING, 0), 0)


def shares_of(one, *micros):
    """What a giver gives in each quarter."""
    return [answer[0] for answer in run(one, *[quarter_micros(came) for came in micros])[1:]]


class Running(unittest.TestCase):
    def test_it_runs_in_the_quarter_in_which_it_has_waited(self):
        self.assertEqual(shares_of(giver(start=10, stop=5, wait=3), *[10 * WATT] * 4), [0, 0, 10, 10])
        self.assertEqual(shares_of(giver(start=10, stop=5, wait=1), 10 * WATT), [10])
        self.assertEqual(shares_of(giver(start=10, stop=5, wait=2), 10 * WATT, 11 * WATT), [0, 11])

    def test_96_quarters(self):
        self.assertEqual(shares_of(giver(start=1, stop=1, wait=96), *[WATT] * 97), [0] * 95 + [1, 1])

    def test_start_is_reached_at_just_its_watts(self):
        self.assertEqual(shares_of(giver(start=10), 10 * WATT - 1, 10 * WATT), [0, 10])

    def test_below_start_it_waits_anew(self):
        came = [10 * WATT, 10 * WATT, 10 * WATT - 1, 10 * WATT, 10 * WATT, 10 * WATT]
        self.assertEqual(shares_of(giver(start=10, wait=3), *came), [0, 0, 0, 0, 0, 10])

    def test_it_runs_on_from_stop_on(self):
        came = [10 * WATT, 9 * WATT, 5 * WATT, 5 * WATT - 1, 9 * WATT, 10 * WATT]
        self.assertEqual(shares_of(giver(start=10, stop=5), *came), [10, 9, 5, 0, 0, 10])

    def test_once_standing_it_waits_in_full_again(self):
        came = [10 * WATT] * 3 + [0] + [10 * WATT] * 3
        self.assertEqual(shares_of(giver(start=10, stop=1, wait=2), *came), [0, 10, 10, 0, 0, 10, 10])

    def test_waiting_begins_at_0_when_it_has_run(self):
        came = [10 * WATT, 10 * WATT, 4 * WATT, 10 * WATT, 10 * WATT]
        self.assertEqual(shares_of(giver(start=10, stop=5, wait=2), *came), [0, 10, 0, 0, 10])

    def test_with_start_0_and_stop_0_it_never_stands_again(self):
        self.assertEqual(shares_of(giver(), 0, 3 * WATT, 0, 4 * WATT), [0, 3, 0, 4])

    def test_no_more_than_up_above_the_quarter_before(self):
        self.assertEqual(shares_of(giver(up=4), *[10 * WATT] * 4), [4, 8, 10, 10])
        self.assertEqual(shares_of(giver(up=0), *[10 * WATT] * 2), [0, 0])

    def test_down_as_fast_as_it_comes(self):
        self.assertEqual(shares_of(giver(up=4), 10 * WATT, 10 * WATT, WATT, 10 * WATT), [4, 8, 1, 5])

    def test_up_is_counted_from_what_it_gave_not_from_what_it_could(self):
        calls = [giver(up=4), order(8, 1, 2, 3)] + [quarter(20)] * 4
        self.assertEqual([answer[0] for answer in run(*calls)[2:]], [4, 3, 7, 11])

    def test_a_giver_that_stood_begins_again_from_0(self):
        self.assertEqual(shares_of(giver(start=1, stop=1, up=4), 9 * WATT, 9 * WATT, 0, 9 * WATT), [4, 8, 0, 4])


class Away(unittest.TestCase):
    def test_it_stands_whatever_comes(self):
        calls = [giver(), giver(), quarter(5, 6), away(0, 1), could(5, 6), quarter(5, 6), away(0, 0), quarter(5, 6)]
        self.assertEqual(run(*calls)[3:], [[0], told(6, 0, 6), told(6, 0, 6), [0], told(11, 5, 6)])

    def test_it_has_waited_0_at_once(self):
        one = giver(start=5, wait=2)
        self.assertEqual(last(one, quarter(5), quarter(5)), told(5, 5))
        self.assertEqual(last(one, quarter(5), away(0, 1), away(0, 0), quarter(5)), told(0, 0))
        self.assertEqual(last(one, quarter(5), away(0, 1), away(0, 0), quarter(5), quarter(5)), told(5, 5))

    def test_it_stands_at_once(self):
        one = giver(start=5, stop=1)
        self.assertEqual(last(one, quarter(5), quarter(2)), told(2, 2))
        self.assertEqual(last(one, quarter(5), away(0, 1), away(0, 0), quarter(2)), told(0, 0))

    def test_it_does_not_wait_while_it_is_away(self):
        one = giver(start=5, wait=2)
        self.assertEqual(last(one, away(0, 1), quarter(5), quarter(5), away(0, 0), quarter(5)), told(0, 0))

    def test_what_it_gave_in_the_quarter_before_stays(self):
        one = giver(up=4)
        self.assertEqual(last(one, quarter(9), quarter(9), away(0, 1), away(0, 0), could(20)), told(12, 12))
        self.assertEqual(last(one, quarter(9), quarter(9), away(0, 1), quarter(9), away(0, 0), could(20)), told(4, 4))

    def test_once_more_changes_nothing(self):
        one = giver(start=5, wait=2)
        self.assertEqual(last(one, quarter(5), away(0, 0), quarter(5)), told(5, 5))
        self.assertEqual(last(one, away(0, 1), away(0, 1), quarter(5), quarter(5)), told(0, 0))

    def test_refusals(self):
        before = [giver(), giver(), quarter(7, 8)]
        for call, number in [(away(0, 2), -1), (away(0, BOUND), -1), (away(2, 1), -2), (away(2, 0), -2),
                             (away(BOUND, 1), -2), (away(2, 2), -1)]:
            with self.subTest(call=call):
                check_refused(self, before, call, number)
        self.assertEqual(last(away(0, 1)), [-2])
        self.assertEqual(last(giver(), away(0, 1)), [0])


class Could(unittest.TestCase):
    def test_of_each_giver_and_in_all(self):
        self.assertEqual(last(giver(), giver(table=(0, 1)), giver(start=4), could(3, 3, 3)), told(5, 3, 2, 0))

    def test_it_changes_nothing(self):
        one = giver(start=5, stop=2, wait=2, up=3)
        calls = [one, quarter(5), could(5), could(5), quarter(5), could(1), could(9), quarter(4)]
        self.assertEqual(run(*calls)[1:], [told(0, 0), told(3, 3), told(3, 3), told(3, 3), told(0, 0), told(6, 6),
                                           told(4, 4)])

    def test_orders_do_not_matter(self):
        self.assertEqual(last(giver(), order(8, 0, 9, 1), order(0, 0, 9, 0), could(7)), told(7, 7))

    def test_the_greatest_that_comes_in(self):
        givers = [giver()] * 24
        self.assertEqual(last(*givers, could_micros(*[MOST_COMING] * 24)), told(240000000, *[MOST_WATTS] * 24))

    def test_without_givers(self):
        self.assertEqual(last(could()), told(0))

    def test_a_row_of_another_length_is_refused(self):
        for coming in ([], [1], [1, 2, 3], [1] * 19000):
            with self.subTest(length=len(coming)):
                check_refused(self, [giver(), giver(), quarter(3, 4)], could(*coming), -1)
        self.assertEqual(last(could(0)), [-1])


if __name__ == '__main__':
    unittest.main()
