"""quarter and rule: what is given, by which rule, and what is counted."""

import unittest

from plantshand.changes import tell_away, tell_back, tell_giver, tell_order, tell_quarter, tell_ramps, tell_rule
from plantshand.state import Desk
from tests.helper import (BOUND, MOST_COMING, MOST_WATTS, WATT, check_refused, giver, last, limits, order, parts,
                          quarter, quarter_micros, ramps, rule, run, told)


class Quarter(unittest.TestCase):
    def test_what_is_given_and_each_share(self):
        self.assertEqual(last(giver(), giver(table=(0, 2)), giver(most=4), quarter(9, 9, 9)), told(20, 9, 7, 4))

    def test_without_givers(self):
        self.assertEqual(run(quarter(), order(8, 0, 1, 5), order(8, 0, 2, 5)), [told(0), [-2], [0]])

    def test_a_row_of_another_length_is_refused(self):
        before = [giver(start=5, wait=2), giver(up=3), ramps(20, 4), quarter(9, 9), order(8, 0, 9, 2)]
        for coming in ([], [9], [9, 9, 9], [9] * 19000):
            with self.subTest(length=len(coming)):
                check_refused(self, before, quarter(*coming), -1)
        self.assertEqual(last(quarter(0)), [-1])

    def test_a_giver_told_between_two(self):
        self.assertEqual(run(giver(up=3), quarter(9), giver(up=3), quarter(9, 9))[1:], [told(3, 3), [1], told(9, 6, 3)])

    def test_the_greatest_that_comes_in(self):
        calls = [giver()] * 24 + [quarter_micros(*[MOST_COMING] * 24), limits()]
        answered = run(*calls)
        self.assertEqual(answered[24], told(24 * MOST_WATTS, *[MOST_WATTS] * 24))
        self.assertEqual(answered[25], told(0, *[-1] * 8, 24 * MOST_WATTS + BOUND))


class Rule(unittest.TestCase):
    GIVERS = [giver(worth=1), giver(worth=9), giver(worth=9), order(8, 0, 99, 10)]

    def test_the_fairest_told_at_first(self):
        self.assertEqual(last(*self.GIVERS, quarter(6, 6, 6)), told(10, 4, 3, 3))

    def test_each_rule_from_when_it_is_told(self):
        calls = [rule(1), quarter(6, 6, 6), rule(1), quarter(6, 6, 6), rule(0), quarter(6, 6, 6)]
        self.assertEqual(run(*self.GIVERS, *calls)[4:], [[0], told(10, 0, 6, 4), [0], told(10, 0, 6, 4), [0],
                                                         told(10, 4, 3, 3)])

    def test_it_does_not_matter_for_parts(self):
        self.assertEqual(last(*self.GIVERS, rule(1), parts(0, 6, 6, 6)), told(10, 4, 3, 3))
        self.assertEqual(last(*self.GIVERS, rule(0), parts(1, 6, 6, 6)), told(10, 0, 6, 4))

    def test_refusals(self):
        for k in (2, BOUND):
            check_refused(self, self.GIVERS, rule(k), -1)
            check_refused(self, self.GIVERS + [rule(1)], rule(k), -1)


def desk_with(how_many, kinds=(0,) * 24):
    desk = Desk()
    for number in range(how_many):
        tell_giver(desk, [kinds[number], MOST_WATTS, 0, 0, 1, MOST_WATTS, 1], [0, 0])
    return desk


class Counted(unittest.TestCase):
    """What a quarter adds up on the desk itself; promise 5."""

    def test_what_they_could_give_and_gave(self):
        desk = desk_with(2)
        tell_order(desk, 8, 0, 1, 10)
        tell_quarter(desk, [20 * WATT, 4 * WATT])
        tell_quarter(desk, [7 * WATT, 8 * WATT])
        self.assertEqual((desk.could_ever, desk.gave_ever, desk.quarter), (39, [6 + 7, 4 + 8], 2))

    def test_an_order_loses_what_it_alone_keeps_back(self):
        desk = desk_with(2, (0, 1))
        tell_order(desk, 0, 0, 9, 4)
        tell_order(desk, 8, 0, 9, 15)
        tell_quarter(desk, [10 * WATT, 10 * WATT])
        self.assertEqual((desk.losses, desk.in_force_for), ([1, 0], [1, 1]))
        tell_quarter(desk, [10 * WATT, 13 * WATT])
        self.assertEqual((desk.losses, desk.in_force_for), ([1, 2], [2, 2]))

    def test_two_that_keep_back_the_same_lose_nothing_each(self):
        desk = desk_with(1)
        tell_order(desk, 0, 0, 9, 4)
        tell_order(desk, 0, 0, 9, 4)
        tell_order(desk, 0, 0, 9, 6)
        tell_quarter(desk, [10 * WATT])
        self.assertEqual((desk.losses, desk.in_force_for), ([0, 0, 0], [1, 1, 1]))
        tell_back(desk, 0)
        tell_quarter(desk, [10 * WATT])
        self.assertEqual((desk.losses, desk.in_force_for), ([0, 2, 0], [1, 2, 2]))

    def test_only_while_it_is_in_force(self):
        desk = desk_with(1)
        tell_order(desk, 8, 1, 3, 4)
        for loss, count in ((0, 0), (6, 1), (12, 2), (12, 2)):
            tell_quarter(desk, [10 * WATT])
            self.assertEqual((desk.losses, desk.in_force_for), ([loss], [count]))

    def test_not_once_it_is_taken_back(self):
        desk = desk_with(1)
        tell_order(desk, 8, 0, 9, 4)
        tell_quarter(desk, [10 * WATT])
        tell_back(desk, 0)
        tell_quarter(desk, [10 * WATT])
        self.assertEqual((desk.losses, desk.in_force_for), ([6], [1]))

    def test_the_plants_up_still_holds_without_it(self):
        desk = desk_with(1)
        tell_ramps(desk, 7, BOUND)
        tell_order(desk, 8, 0, 9, 4)
        tell_quarter(desk, [10 * WATT])
        self.assertEqual(desk.losses, [3])

    def test_its_limit_as_it_is_brought_down_counts(self):
        desk = desk_with(1)
        tell_quarter(desk, [10 * WATT])
        tell_ramps(desk, BOUND, 3)
        tell_order(desk, 8, 0, 9, 0)
        tell_quarter(desk, [10 * WATT])
        self.assertEqual(desk.losses, [3])

    def test_one_that_stands_or_is_away_loses_nothing(self):
        desk = desk_with(2)
        tell_order(desk, 0, 0, 9, 4)
        tell_away(desk, 0, 1)
        tell_quarter(desk, [10 * WATT, 5 * WATT])
        self.assertEqual(desk.losses, [1])

    def test_the_rule_does_not_matter(self):
        desks = [desk_with(2, (0, 1)), desk_with(2, (0, 1))]
        tell_rule(desks[1], 1)
        for desk in desks:
            tell_order(desk, 1, 0, 9, 4)
            tell_order(desk, 8, 0, 9, 11)
            tell_quarter(desk, [10 * WATT, 10 * WATT])
        self.assertEqual(desks[0].losses, [0, 3])
        self.assertEqual(desks[1].losses, [0, 3])

    def test_a_refused_quarter_counts_nothing(self):
        desk = desk_with(1)
        tell_order(desk, 8, 0, 9, 4)
        self.assertEqual(tell_quarter(desk, []), [-1])
        self.assertEqual((desk.losses, desk.in_force_for, desk.could_ever, desk.quarter), ([0], [0], 0, 0))


if __name__ == '__main__':
    unittest.main()
