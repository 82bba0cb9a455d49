"""The calls on one desk, read one behind another from a list of numbers, and their answers."""

from plantshand.changes import tell_away, tell_back, tell_giver, tell_order, tell_quarter, tell_ramps, tell_rule
from plantshand.memory import Memory, take_over, tell_begin, tell_redo, tell_undo
from plantshand.questions import ask_binds, ask_clears, ask_could, ask_judge
from plantshand.questions import ask_limits, ask_parts, ask_prices, ask_proof
from plantshand.records import ask_lost, ask_passes, ask_state, ask_sums, ask_told
from plantshand.state import copy_of

# of each call, by its number: how many whole numbers it has, and how many rows
FORMS = (
    (7, 1),
    (2, 0),
    (2, 0),
    (1, 0),
    (4, 0),
    (1, 0),
    (0, 1),
    (0, 1),
    (0, 0),
    (1, 1),
    (0, 2),
    (0, 1),
    (0, 3),
    (1, 0),
    (1, 0),
    (0, 1),
    (0, 1),
    (1, 0),
    (0, 0),
    (2, 0),
    (0, 0),
    (0, 0),
    (0, 0),
)
GIVER = 0
AWAY = 1
RAMPS = 2
RULE = 3
ORDER = 4
BACK = 5
QUARTER = 6
COULD = 7
LIMITS = 8
PARTS = 9
JUDGE = 10
PRICES = 11
PROOF = 12
LOST = 13
TOLD = 14
BINDS = 15
STATE = 17
SUMS = 18
PASSES = 19
UNDO = 20
REDO = 21


def read_rows(calls, at, how_many):
    """So many rows from a place on, each behind its length, and the place behind them."""
    rows = []
    for row in range(how_many):
        end = at + 1 + calls[at]
        rows.append(calls[at + 1:end])
        at = end
    return (rows, at)


def answer_change(desk, call, numbers, rows):
    """The answer to a call that changes the desk."""
    if call == GIVER:
        return tell_giver(desk, numbers, rows[0])
    if call == AWAY:
        return tell_away(desk, numbers[0], numbers[1])
    if call == RAMPS:
        return tell_ramps(desk, numbers[0], numbers[1])
    if call == RULE:
        return tell_rule(desk, numbers[0])
    if call == ORDER:
        return tell_order(desk, numbers[0], numbers[1], numbers[2], numbers[3])
    if call == BACK:
        return tell_back(desk, numbers[0])
    return tell_quarter(desk, rows[0])


def answer_remembered(memory, call, numbers, rows):
    """The answer to a call that changes the desk; it can be undone unless it is refused."""
    changed = copy_of(memory.desk)
    answer = answer_change(changed, call, numbers, rows)
    if answer[0] >= 0:
        take_over(memory, changed)
    return answer


def answer_question(desk, call, numbers, rows):
    """The answer to a call that asks of the next quarter."""
    if call == COULD:
        return ask_could(desk, rows[0])
    if call == LIMITS:
        return ask_limits(desk)
    if call == PARTS:
        return ask_parts(desk, numbers[0], rows[0])
    if call == JUDGE:
        return ask_judge(desk, rows[0], rows[1])
    if call == PRICES:
        return ask_prices(desk, rows[0])
    if call == PROOF:
        return ask_proof(desk, rows[0], rows[1], rows[2])
    if call == BINDS:
        return ask_binds(desk, rows[0])
    return ask_clears(desk, rows[0])


def answer_record(desk, call, numbers):
    """The answer to a call that asks what the desk holds."""
    if call == LOST:
        return ask_lost(desk, numbers[0])
    if call == TOLD:
        return ask_told(desk, numbers[0])
    if call == STATE:
        return ask_state(desk, numbers[0])
    if call == SUMS:
        return ask_sums(desk)
    return ask_passes(desk, numbers[0], numbers[1])


def answer_turn(memory, call):
    """The answer to a call that puts another desk in the place of this one."""
    if call == UNDO:
        return tell_undo(memory)
    if call == REDO:
        return tell_redo(memory)
    return tell_begin(memory)


def answer_call(memory, call, numbers, rows):
    """The answer to any call."""
    if call <= QUARTER:
        return answer_remembered(memory, call, numbers, rows)
    if call >= UNDO:
        return answer_turn(memory, call)
    if call in (LOST, TOLD, STATE, SUMS, PASSES):
        return answer_record(memory.desk, call, numbers)
    return answer_question(memory.desk, call, numbers, rows)


def answers(calls):
    """The answers to the calls of one list, in order, each behind how many numbers it has."""
    memory = Memory()
    told = []
    at = 0
    while at < len(calls):
        call = calls[at]
        form = FORMS[call]
        behind = at + 1 + form[0]
        rows_end = read_rows(calls, behind, form[1])
        answer = answer_call(memory, call, calls[at + 1:behind], rows_end[0])
        told.append(len(answer))
        told.extend(answer)
        at = rows_end[1]
    return told
