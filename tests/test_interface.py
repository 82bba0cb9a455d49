"""plantshand.desk.answers: how calls and answers stand in their lists, that nothing is changed or kept, how soon."""

import inspect
import unittest
from time import perf_counter

import plantshand.desk
from plantshand.desk import FORMS, answers
from tests.helper import (BOUND, MOST_COMING, MOST_WATTS, away, back, begin, binds, clears, could, flat, giver, judge,
                          limits, lost, order, parts, passes, prices, proof, quarter, quarter_micros, ramps, redo, row,
                          rule, run, state, sums, told_of, undo)

SOON = 10

EACH = [giver(table=(0, 0, 100, 7)), giver(kind=1, worth=3), away(1, 1), away(1, 0), ramps(90, 30), rule(1),
        order(1, 0, 5, 8), quarter(50, 40), could(50, 40), limits(), parts(0, 50, 40), parts(1, 50, 40),
        judge([50, 40], [50, 8]), prices(50, 40), proof([50, 40], [50, 8], [0] * 9), lost(0), told_of(0),
        binds(50, 40), clears(50, 40), state(0), sums(), passes(0, 50000000), undo(), redo(), back(0), quarter(50, 40),
        away(9, 9), state(1), undo(), sums(), begin(), undo(), redo(), sums(), giver()]


def greatest():
    """24 givers with the greatest tables, 32 orders in force: 56 calls."""
    table = [number for point in range(24) for number in (point * 180000000, point * 90000000)]
    givers = [giver(number % 8, MOST_WATTS, 1, 1, 1, MOST_WATTS, 65535 - number, table) for number in range(24)]
    return givers + [order(number % 9, 0, BOUND, 20000000 + 1000003 * number) for number in range(32)]


class Form(unittest.TestCase):
    def test_the_function_has_one_plain_parameter(self):
        self.assertEqual(str(inspect.signature(answers)), '(calls)')
        self.assertEqual(answers.__module__, 'plantshand.desk')

    def test_each_call_as_it_stands(self):
        calls = [0, 2, 100, 0, 0, 1, 100, 5, 2, 0, 0,
                 4, 8, 0, 9, 30,
                 8,
                 6, 1, 50000000,
                 7, 1, 20000000,
                 9, 1, 1, 70,
                 10, 1, 70, 1, 30,
                 11, 1, 70,
                 2, 5, 6,
                 3, 1,
                 1, 0, 1,
                 5, 0,
                 5, 0]
        told = [1, 0,
                1, 0,
                11, 0, 9, -1, -1, -1, -1, -1, -1, -1, -1, 30,
                3, 30, 1, 30,
                3, 20, 1, 20,
                3, 30, 1, 30,
                1, 3,
                11, 200, 9, 0, 0, 0, 0, 0, 0, 0, 0, 5,
                1, 0,
                1, 0,
                1, 0,
                1, 0,
                1, -2]
        self.assertEqual(answers(calls), told)

    def test_each_later_call_as_it_stands(self):
        calls = [0, 2, 100, 0, 0, 1, 100, 5, 2, 0, 0,
                 4, 8, 0, 9, 30,
                 6, 1, 50000000,
                 12, 1, 70, 1, 30, 9, 0, 0, 0, 0, 0, 0, 0, 0, 5,
                 12, 1, 70, 1, 30, 9, 0, 0, 0, 0, 0, 0, 0, 0, 4,
                 13, 0,
                 14, 0,
                 15, 1, 70,
                 16, 1, 30,
                 17, 0,
                 18,
                 19, 0, 60000000,
                 5, 0,
                 14, 0,
                 20,
                 14, 0,
                 21,
                 21,
                 22,
                 20,
                 18]
        told = [1, 0,
                1, 0,
                3, 30, 1, 30,
                1, 1,
                1, 0,
                3, 20, 1, 1,
                8, 0, 6, 8, 0, 9, 30, 0, -1,
                3, 1, 1, 0,
                2, 0, 0,
                6, 1, 4, 0, 30, 30, 0,
                5, 1, 3, 50, 30, 20,
                1, 60,
                1, 0,
                8, 0, 6, 8, 0, 9, 30, 0, 1,
                1, 0,
                8, 0, 6, 8, 0, 9, 30, 0, -1,
                1, 0,
                1, -2,
                1, 0,
                1, -2,
                5, 0, 3, 0, 0, 0]
        self.assertEqual(answers(calls), told)

    def test_rows_of_no_numbers(self):
        self.assertEqual(answers([6, 0, 7, 0, 9, 0, 0, 10, 0, 0, 11, 0]),
                         [2, 0, 0, 2, 0, 0, 2, 0, 0, 1, 3, 11, 0, 9, 0, 0, 0, 0, 0, 0, 0, 0, 0])

    def test_a_refusal_is_its_number_alone(self):
        self.assertEqual(answers([0, 8, 0, 0, 0, 1, 0, 0, 0, 6, 1, 5, 5, 0, 3, 2, 1, 0, 1]),
                         [1, -1, 1, -1, 1, -1, 1, -1, 1, -2])
        self.assertEqual(answers([12, 0, 0, 0, 13, 0, 14, 0, 15, 1, 0, 16, 1, 0, 17, 0, 19, 0, 0, 20, 21]),
                         [1, -1] * 7 + [1, -2] * 2)

    def test_a_long_row_is_gone_over(self):
        self.assertEqual(answers([6] + row([7] * 19000) + [3, 1, 10, 0] + row([8] * 900) + [8]),
                         [1, -1, 1, 0, 1, -1, 11, 0, 9] + [-1] * 8 + [BOUND])

    def test_whole_numbers_in_a_list(self):
        told = answers(flat(EACH))
        self.assertIs(type(told), list)
        self.assertEqual({type(number) for number in told}, {int})


class Forms(unittest.TestCase):
    """How many whole numbers and rows each call has, as the interface tells it."""

    ROWS = {'giver': (7, 1), 'away': (2, 0), 'ramps': (2, 0), 'rule': (1, 0), 'order': (4, 0), 'back': (1, 0),
            'quarter': (0, 1), 'could': (0, 1), 'limits': (0, 0), 'parts': (1, 1), 'judge': (0, 2), 'prices': (0, 1),
            'proof': (0, 3), 'lost': (1, 0), 'told': (1, 0), 'binds': (0, 1), 'clears': (0, 1), 'state': (1, 0),
            'sums': (0, 0), 'passes': (2, 0), 'undo': (0, 0), 'redo': (0, 0), 'begin': (0, 0)}

    def test_all_23(self):
        self.assertEqual(list(FORMS), list(self.ROWS.values()))

    def test_each_takes_just_its_own_numbers(self):
        for number, (singles, rows) in enumerate(FORMS):
            with self.subTest(call=number):
                call = [number] + [BOUND] * singles + [2, 0, 7] * rows
                self.assertEqual(answers(call + [18]), answers(call) + [5, 0, 3, 0, 0, 0])

    def test_none_raises_an_error(self):
        for number, (singles, rows) in enumerate(FORMS):
            for single in (0, 1, BOUND):
                for length in (0, 1, 2, 9, 24):
                    told = answers(flat(EACH[:8]) + [number] + [single] * singles + ([length] + [3] * length) * rows)
                    self.assertEqual({type(one) for one in told}, {int})


class NothingKept(unittest.TestCase):
    def test_the_list_handed_in_is_as_it_was(self):
        for calls in (flat(EACH), flat(greatest() + [quarter_micros(*[MOST_COMING] * 24)] * 20)):
            copy = list(calls)
            answers(calls)
            self.assertEqual(calls, copy)

    def test_a_second_time_answers_the_same(self):
        calls = flat(EACH)
        first = answers(calls)
        answers(flat(greatest() + [ramps(0, 0), rule(1)]))
        self.assertEqual(answers(calls), first)

    def test_what_is_given_back_is_the_callers_own(self):
        first = answers(flat(EACH))
        copy = list(first)
        first.clear()
        self.assertEqual(answers(flat(EACH)), copy)

    def test_each_list_begins_with_a_new_desk(self):
        run(*EACH)
        self.assertEqual(run(quarter(), limits(), giver(), order(8, 1, 2, 0)),
                         [[0, 0], [0, 9] + [-1] * 8 + [BOUND], [0], [0]])

    def test_no_name_of_the_module_changes(self):
        before = {name: repr(value) for name, value in vars(plantshand.desk).items() if name.isupper()}
        answers(flat(EACH))
        self.assertEqual({name: repr(value) for name, value in vars(plantshand.desk).items() if name.isupper()}, before)


class Soon(unittest.TestCase):
    def check_soon(self, calls):
        numbers = flat(calls)
        self.assertLessEqual(len(calls), 400)
        self.assertLessEqual(len(numbers), 20000)
        begun = perf_counter()
        told = answers(numbers)
        self.assertLess(perf_counter() - begun, SOON)
        return told

    def test_quarters(self):
        for k in (0, 1):
            rows = [[MOST_COMING - 37 * (part + number) for number in range(24)] for part in range(343)]
            going = [quarter_micros(*coming) for coming in rows]
            self.check_soon(greatest() + [rule(k)] + going)

    def test_judgements(self):
        able = [MOST_WATTS - number for number in range(24)]
        self.check_soon(greatest() + [judge(able, able)] * 344)

    def test_parts_and_prices(self):
        able = [MOST_WATTS - number for number in range(24)]
        self.check_soon(greatest() + [parts(0, *able), parts(1, *able), prices(*able), limits()] * 86)

    def test_proofs_binds_and_clears(self):
        able = [MOST_WATTS - number for number in range(24)]
        asked = [proof(able, able, [BOUND] * 9), binds(*able), clears(*able), binds(*able)]
        self.check_soon(greatest() + asked * 86)

    def test_records(self):
        asked = [lost(31), told_of(31), state(23), sums(), passes(23, MOST_COMING)]
        self.check_soon(greatest() + [quarter_micros(*[MOST_COMING] * 24)] * 4 + asked * 68)

    def test_undo_and_redo(self):
        going = [quarter_micros(*[MOST_COMING] * 24)] * 20
        self.check_soon(greatest() + going + ([undo()] * 16 + [redo()] * 16) * 10)
        self.check_soon(greatest() + [undo(), redo(), quarter_micros(*[MOST_COMING] * 24)] * 114)

    def test_all_sorts_by_turns(self):
        able = [MOST_WATTS - number for number in range(24)]
        coming = [MOST_COMING - number for number in range(24)]
        asked = [ramps(BOUND, 0), quarter_micros(*coming), undo(), redo(), binds(*able), clears(*able), lost(0),
                 told_of(0), state(0), sums(), passes(0, MOST_COMING), limits(), judge(able, able), rule(1),
                 away(0, 1), away(0, 0), proof(able, able, [0] * 9)]
        self.check_soon(greatest() + asked * 20)

    def test_one_that_begins_again_and_again(self):
        self.check_soon([begin()] * 400)
        self.check_soon((greatest() + [begin()]) * 5)

    def test_20000_numbers(self):
        filling = greatest() + [quarter_micros(*[MOST_COMING] * 24)] * 343
        left = 20000 - len(flat(filling))
        told = self.check_soon(filling + [quarter_micros(*[MOST_COMING] * (left - 2))])
        self.assertEqual(told[-2:], [1, -1])

    def test_one_row_of_nearly_all(self):
        self.assertEqual(self.check_soon([could(*[1] * 19998)]), [1, -1])
        self.assertEqual(self.check_soon([giver(table=[1] * 19991)]), [1, -2])
        self.assertEqual(self.check_soon([parts(0, *[BOUND] * 19997)]), [1, -1])
        self.assertEqual(self.check_soon([proof([1] * 6665, [1] * 6665, [1] * 6665)]), [1, -1])
        self.assertEqual(self.check_soon([proof([], [], [1] * 19996)]), [1, -1])
        self.assertEqual(self.check_soon([binds(*[1] * 19998)]), [1, -1])
        self.assertEqual(self.check_soon([clears(*[1] * 19998)]), [1, -1])


if __name__ == '__main__':
    unittest.main()
