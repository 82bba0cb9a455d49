"""parts, judge and prices: the shares told, their judgement and their prices, also against a plain search."""

import unittest
from itertools import product
from random import Random

from tests.helper import (BOUND, MOST_WATTS, NONE, allowed, check_refused, every_allowed, giver, judge, last,
                          loss, one_by_one, order, parts, prices, proves, ramps, run, searched_fairest, told)


def desk(kinds, worths, bounds):
    """Calls that make a desk with these givers and limits in its next quarter."""
    givers = [giver(kind=kind, worth=worth) for kind, worth in zip(kinds, worths)]
    return givers + [order(scope, 0, 9, bound) for scope, bound in enumerate(bounds) if bound != NONE]


def bounds_of(plant, **classes):
    return [classes.get(f'c{kind}', NONE) for kind in range(8)] + [plant]


class Parts(unittest.TestCase):
    def test_all_without_limits(self):
        for k in (0, 1):
            self.assertEqual(last(*desk([0, 1, 1], [3, 2, 1], []), parts(k, 5, 0, 9)), told(14, 5, 0, 9))

    def test_the_fairest_by_the_plants_limit(self):
        calls = desk([0, 0, 0], [1, 1, 1], bounds_of(10))
        self.assertEqual(last(*calls, parts(0, 6, 6, 6)), told(10, 4, 3, 3))
        self.assertEqual(last(*calls, parts(0, 6, 1, 6)), told(10, 5, 1, 4))
        self.assertEqual(last(*calls, parts(0, 3, 3, 4)), told(10, 3, 3, 4))
        self.assertEqual(last(*calls, parts(0, 2, 9, 9)), told(10, 2, 4, 4))

    def test_the_fairest_by_a_classs_limit(self):
        calls = desk([0, 1, 1, 0], [1, 1, 1, 1], bounds_of(BOUND, c1=5))
        self.assertEqual(last(*calls, parts(0, 9, 9, 9, 9)), told(23, 9, 3, 2, 9))

    def test_the_fairest_by_both(self):
        calls = desk([0, 1, 1, 0], [1, 1, 1, 1], bounds_of(16, c1=5))
        self.assertEqual(last(*calls, parts(0, 9, 9, 9, 9)), told(16, 6, 3, 2, 5))
        calls = desk([0, 1, 1, 0], [1, 1, 1, 1], bounds_of(15, c1=9))
        self.assertEqual(last(*calls, parts(0, 9, 9, 9, 9)), told(15, 4, 4, 4, 3))
        calls = desk([1, 1, 0], [1, 1, 1], bounds_of(7, c1=5))
        self.assertEqual(last(*calls, parts(0, 9, 9, 9)), told(7, 3, 2, 2))

    def test_the_plants_up_is_a_limit_too(self):
        calls = [giver(), giver(), ramps(7, 0), parts(0, 9, 9)]
        self.assertEqual(last(*calls), told(7, 4, 3))

    def test_least_lost_goes_by_worth_then_by_number(self):
        calls = desk([0, 0, 0, 0], [5, 9, 9, 1], bounds_of(17))
        self.assertEqual(last(*calls, parts(1, 8, 6, 6, 8)), told(17, 5, 6, 6, 0))
        calls = desk([0, 0, 0], [2, 2, 2], bounds_of(10))
        self.assertEqual(last(*calls, parts(1, 6, 6, 6)), told(10, 6, 4, 0))

    def test_least_lost_under_a_class(self):
        calls = desk([1, 1, 0, 1], [5, 9, 1, 9], bounds_of(12, c1=10))
        self.assertEqual(last(*calls, parts(1, 8, 7, 6, 8)), told(12, 0, 7, 2, 3))

    def test_worth_0(self):
        self.assertEqual(last(*desk([0, 0], [0, 0], bounds_of(5)), parts(1, 4, 4)), told(5, 4, 1))

    def test_limits_of_0(self):
        for k in (0, 1):
            self.assertEqual(last(*desk([0, 1], [3, 2], bounds_of(0)), parts(k, 5, 9)), told(0, 0, 0))
            self.assertEqual(last(*desk([0, 1], [3, 2], bounds_of(BOUND, c1=0)), parts(k, 5, 9)), told(5, 5, 0))

    def test_without_givers(self):
        self.assertEqual(last(parts(0)), told(0))
        self.assertEqual(last(parts(1)), told(0))

    def test_the_greatest_values(self):
        calls = desk([0] * 24, [65535] * 24, [])
        for k in (0, 1):
            self.assertEqual(last(*calls, parts(k, *[MOST_WATTS] * 24)), told(24 * MOST_WATTS, *[MOST_WATTS] * 24))
        calls = desk([0] * 24, [65535] * 24, bounds_of(24 * MOST_WATTS - 1))
        self.assertEqual(last(*calls, parts(0, *[MOST_WATTS] * 24))[2:], [MOST_WATTS] * 23 + [MOST_WATTS - 1])

    def test_refusals(self):
        before = desk([0, 1], [1, 2], bounds_of(9))
        for call in [parts(2, 5, 5), parts(BOUND, 5, 5), parts(0), parts(0, 5), parts(1, 5, 5, 5),
                     parts(0, *[1] * 19000), parts(0, 5, MOST_WATTS + 1), parts(1, BOUND, 5), parts(2)]:
            with self.subTest(call=call[:6]):
                check_refused(self, before, call, -1)
        self.assertEqual(last(parts(0, 0)), [-1])
        self.assertEqual(last(*before, parts(1, MOST_WATTS, MOST_WATTS)), told(9, 0, 9))


class Judge(unittest.TestCase):
    def test_tells_3_2_1_and_0_apart(self):
        calls = desk([0, 0, 0], [1, 1, 1], bounds_of(10))
        able = [6, 6, 6]
        for shares, number in [([4, 3, 3], 3), ([3, 4, 3], 2), ([3, 3, 4], 2), ([5, 3, 2], 1), ([3, 3, 3], 1),
                               ([0, 0, 0], 1), ([6, 4, 0], 1), ([4, 4, 3], 0), ([7, 1, 1], 0), ([BOUND, 0, 0], 0)]:
            with self.subTest(shares=shares):
                self.assertEqual(last(*calls, judge(able, shares)), [number])

    def test_as_fair_but_not_allowed(self):
        calls = desk([0, 1, 1], [1, 1, 1], bounds_of(10, c1=6))
        self.assertEqual(last(*calls, judge([6, 6, 6], [4, 3, 3])), [3])
        self.assertEqual(last(*calls, judge([6, 6, 6], [3, 4, 3])), [0])
        self.assertEqual(last(*desk([0, 0], [1, 1], bounds_of(5)), judge([9, 2], [2, 3])), [0])

    def test_a_full_class_and_the_plant(self):
        calls = desk([0, 1, 1, 0], [1, 1, 1, 1], bounds_of(16, c1=5))
        able = [9, 9, 9, 9]
        for shares, number in [([6, 3, 2, 5], 3), ([5, 3, 2, 6], 2), ([6, 2, 3, 5], 2), ([5, 2, 3, 6], 2),
                               ([7, 3, 2, 4], 1), ([6, 2, 2, 6], 1), ([5, 3, 3, 5], 0), ([6, 3, 2, 6], 0)]:
            with self.subTest(shares=shares):
                self.assertEqual(last(*calls, judge(able, shares)), [number])

    def test_just_what_each_could_give_without_limits(self):
        self.assertEqual(last(giver(), giver(), judge([4, MOST_WATTS], [4, MOST_WATTS])), [3])
        self.assertEqual(last(giver(), giver(), judge([4, 5], [5, 4])), [0])

    def test_without_givers(self):
        self.assertEqual(last(judge([], [])), [3])

    def test_refusals(self):
        before = desk([0, 1], [1, 2], bounds_of(9))
        for able, shares in [([], []), ([5], [5]), ([5], [5, 5]), ([5, 5, 5], [5, 5, 5]), ([5, 5], [5]), ([5, 5], []),
                             ([5, 5], [5, 4, 0]), ([5, MOST_WATTS + 1], [5, 4]), ([BOUND, 5], [5]),
                             ([5, 5], [0] * 19000)]:
            with self.subTest(able=able, shares=shares[:4]):
                check_refused(self, before, judge(able, shares), -1)
        self.assertEqual(last(judge([], [0])), [-1])


class Prices(unittest.TestCase):
    def test_nothing_lost_no_price(self):
        self.assertEqual(last(*desk([0, 1], [5, 9], []), prices(7, 8)), told(0, *[0] * 9))
        self.assertEqual(last(prices()), told(0, *[0] * 9))

    def test_the_plants(self):
        calls = desk([0, 0, 1], [5, 9, 7], bounds_of(10))
        self.assertEqual(last(*calls, prices(8, 8, 8)), told(5 * 8 + 7 * 6, *[0] * 8, 7))

    def test_a_classs(self):
        calls = desk([0, 0, 1], [5, 9, 7], bounds_of(BOUND, c0=10))
        self.assertEqual(last(*calls, prices(8, 8, 8)), told(5 * 6, 5, *[0] * 7, 0))

    def test_a_classs_less_the_plants(self):
        calls = desk([0, 0, 1], [5, 9, 3], bounds_of(12, c0=10))
        self.assertEqual(last(*calls, prices(8, 8, 8)), told(5 * 6 + 3 * 6, 2, *[0] * 7, 3))

    def test_a_full_classs_is_not_below_0(self):
        calls = desk([0, 0, 1], [1, 9, 3], bounds_of(12, c0=8))
        self.assertEqual(last(*calls, prices(8, 8, 8)), told(1 * 8 + 3 * 4, *[0] * 8, 3))

    def test_a_class_that_is_just_filled_up(self):
        calls = desk([0, 0, 1], [5, 9, 7], bounds_of(BOUND, c0=16, c1=8))
        self.assertEqual(last(*calls, prices(8, 8, 8)), told(0, *[0] * 9))

    def test_a_class_without_givers_with_limit_0(self):
        calls = desk([0, 0], [5, 9], bounds_of(3, c4=0))
        self.assertEqual(last(*calls, prices(8, 8)), told(5 * 8 + 9 * 5, *[0] * 8, 9))

    def test_the_greatest_values(self):
        calls = desk([7] * 24, [65535] * 24, bounds_of(BOUND, c7=0))
        lost = 24 * 65535 * MOST_WATTS
        self.assertEqual(last(*calls, prices(*[MOST_WATTS] * 24)), told(lost, *[0] * 7, 65535, 0))

    def test_refusals(self):
        before = desk([0, 1], [1, 2], bounds_of(9))
        for able in ([], [5], [5, 5, 5], [5, MOST_WATTS + 1], [BOUND, 5], [1] * 19000):
            with self.subTest(able=able[:4]):
                check_refused(self, before, prices(*able), -1)
        self.assertEqual(last(prices(0)), [-1])


def small_cases():
    """Classes with and without a limit, the plant's limit, equal and different worths."""
    kinds_and_ables = [((0, 0, 0), (3, 3, 3)), ((0, 1, 0), (3, 2, 4)), ((1, 0, 1), (4, 4, 1)), ((0, 1, 2), (2, 3, 3)),
                       ((0, 0, 1, 1), (3, 2, 3, 1)), ((1, 0, 0, 1), (2, 3, 3, 3))]
    for kinds, able in kinds_and_ables:
        for first, second, plant in product((NONE, 0, 1, 3, 5), (NONE, 2, 4), (0, 1, 4, 5, 7, 30)):
            yield kinds, able, [first, second] + [NONE] * 6 + [plant]


class AgainstSearch(unittest.TestCase):
    """Promise 3 by a search over all allowed shares."""

    def test_the_fairest_told(self):
        for kinds, able, bounds in small_cases():
            with self.subTest(kinds=kinds, able=able, bounds=bounds):
                found = searched_fairest(every_allowed(kinds, able, bounds))
                answered = last(*desk(kinds, [1] * len(kinds), bounds), parts(0, *able))
                self.assertEqual(answered, told(sum(found), *found))

    def test_every_judgement(self):
        for kinds, able, bounds in small_cases():
            if bounds[8] not in (4, 5) or bounds[1] == 4:
                continue
            ways = every_allowed(kinds, able, bounds)
            best = searched_fairest(ways)
            rows = [list(shares) for shares in product(*[range(watts + 2) for watts in able])]
            asked = desk(kinds, [1] * len(kinds), bounds)
            told_here = []
            for begin in range(0, len(rows), 300):
                told_here += run(*asked, *[judge(able, shares) for shares in rows[begin:begin + 300]])[len(asked):]
            for shares, answer in zip(rows, told_here):
                fair = 3 if shares == best else 2 if sorted(shares) == sorted(best) else 1
                expected = fair if shares in ways else 0
                self.assertEqual(answer, [expected], (kinds, able, bounds, shares))

    def test_the_least_lost_and_its_prices(self):
        for kinds, able, bounds in small_cases():
            ways = every_allowed(kinds, able, bounds)
            for worths in ((2, 2, 2, 2), (1, 2, 3, 4), (4, 3, 2, 1), (5, 5, 0, 2), (0, 0, 0, 0)):
                worths = worths[:len(kinds)]
                with self.subTest(kinds=kinds, able=able, bounds=bounds, worths=worths):
                    answered = run(*desk(kinds, worths, bounds), parts(1, *able), prices(*able))[-2:]
                    shares, asked = answered[0][2:], answered[1][2:]
                    self.assertEqual(shares, one_by_one(kinds, worths, able, bounds))
                    self.assertEqual(answered[0][0], sum(shares))
                    self.assertEqual(answered[1][0], min([loss(worths, able, way) for way in ways]))
                    self.assertTrue(proves(kinds, worths, able, shares, bounds, asked))


def moved(shares, giver_less, giver_more):
    changed = list(shares)
    changed[giver_less] -= 1
    changed[giver_more] += 1
    return changed


class GreatShares(unittest.TestCase):
    """24 givers with great numbers, where a search would take too long: no single step makes it better."""

    def cases(self):
        random = Random(20)
        for case in range(60):
            kinds = [random.randrange(8) for number in range(24)]
            worths = [random.choice((0, 7, 65535, random.randrange(65536))) for number in range(24)]
            top = random.choice((30, 5000, MOST_WATTS))
            able = [random.choice((0, top, random.randrange(top + 1))) for number in range(24)]
            bounds = [random.choice((NONE, 0, random.randrange(4 * top), BOUND)) for kind in range(8)]
            yield kinds, worths, able, bounds + [random.choice((0, random.randrange(24 * top), BOUND))]

    def check_nothing_kept_back(self, kinds, able, shares, bounds):
        self.assertTrue(allowed(kinds, able, shares, bounds))
        for number in range(24):
            more = shares[:number] + [shares[number] + 1] + shares[number + 1:]
            self.assertFalse(allowed(kinds, able, more, bounds))

    def test_the_fairest_told(self):
        for kinds, worths, able, bounds in self.cases():
            shares = last(*desk(kinds, worths, bounds), parts(0, *able))[2:]
            self.check_nothing_kept_back(kinds, able, shares, bounds)
            self.assertEqual(last(*desk(kinds, worths, bounds), judge(able, shares)), [3])
            for less, more in product(range(24), repeat=2):
                gap = shares[less] - shares[more]
                if gap >= 2 or gap == 1 and more < less:
                    self.assertFalse(allowed(kinds, able, moved(shares, less, more), bounds))

    def test_the_least_lost(self):
        for kinds, worths, able, bounds in self.cases():
            answered = run(*desk(kinds, worths, bounds), parts(1, *able), prices(*able))
            shares, asked = answered[-2][2:], answered[-1][2:]
            self.check_nothing_kept_back(kinds, able, shares, bounds)
            self.assertEqual(answered[-1][0], loss(worths, able, shares))
            self.assertTrue(proves(kinds, worths, able, shares, bounds, asked))
            for less, more in product(range(24), repeat=2):
                better = worths[more] > worths[less] or worths[more] == worths[less] and more < less
                if better and shares[less] > 0:
                    self.assertFalse(allowed(kinds, able, moved(shares, less, more), bounds))

    def test_both_give_the_same_in_all(self):
        for kinds, worths, able, bounds in self.cases():
            answered = run(*desk(kinds, worths, bounds), parts(0, *able), parts(1, *able))
            self.assertEqual(answered[-1][0], answered[-2][0])


if __name__ == '__main__':
    unittest.main()
