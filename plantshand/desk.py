"""The calls on one desk, read one behind another from a list of numbers, and their answers."""

from plantshand.changes import tell_away, tell_back, tell_giver, tell_order, tell_quarter, tell_ramps, tell_rule
from plantshand.questions import ask_could, ask_judge, ask_limits, ask_parts, ask_prices
from plantshand.state import Desk

# of each call, by its number: how many whole numbers it has, and how many rows
FORMS = (
    (7, 1),
    (2, 0),
    (2, 0),
    (1, 0),
    (4, 0),
    (1, 0),
    (0, 1),
    (0, 1),
    (0, 0),
    (1, 1),
    (0, 2),
    (0, 1),
    (0, 3),
    (1, 0),
    (1, 0),
    (0, 1),
    (0, 1),
    (1, 0),
    (0, 0),
    (2, 0),
    (0, 0),
    (0, 0),
    (0, 0),
)
GIVER = 0
AWAY = 1
RAMPS = 2
RULE = 3
ORDER = 4
BACK = 5
QUARTER = 6
COULD = 7
LIMITS = 8
PARTS = 9
JUDGE = 10
PRICES = 11


class CallNotThere(ValueError):
    """A call that the desk does not answer."""


def read_rows(calls, at, how_many):
    """So many rows from a place on, each behind its length, and the place behind them."""
    rows = []
    for row in range(how_many):
        end = at + 1 + calls[at]
        rows.append(calls[at + 1:end])
        at = end
    return (rows, at)


def answer_change(desk, call, numbers, rows):
    """The answer to a call that changes the desk."""
    if call == GIVER:
        return tell_giver(desk, numbers, rows[0])
    if call == AWAY:
        return tell_away(desk, numbers[0], numbers[1])
    if call == RAMPS:
        return tell_ramps(desk, numbers[0], numbers[1])
    if call == RULE:
        return tell_rule(desk, numbers[0])
    if call == ORDER:
        return tell_order(desk, numbers[0], numbers[1], numbers[2], numbers[3])
    if call == BACK:
        return tell_back(desk, numbers[0])
    return tell_quarter(desk, rows[0])


def answer_question(desk, call, numbers, rows):
    """The answer to a call that only asks."""
    if call == COULD:
        return ask_could(desk, rows[0])
    if call == LIMITS:
        return ask_limits(desk)
    if call == PARTS:
        return ask_parts(desk, numbers[0], rows[0])
    if call == JUDGE:
        return ask_judge(desk, rows[0], rows[1])
    if call == PRICES:
        return ask_prices(desk, rows[0])
    raise CallNotThere("the desk does not answer this call")


def answers(calls):
    """The answers to the calls of one list, in order, each behind how many numbers it has."""
    desk = Desk()
    told = []
    at = 0
    while at < len(calls):
        call = calls[at]
        form = FORMS[call]
        behind = at + 1 + form[0]
        numbers = calls[at + 1:behind]
        rows_end = read_rows(calls, behind, form[1])
        if call <= QUARTER:
            answer = answer_change(desk, call, numbers, rows_end[0])
        else:
            answer = answer_question(desk, call, numbers, rows_end[0])
        told.append(len(answer))
        told.extend(answer)
        at = rows_end[1]
    return told
