"""The calls that ask what a desk holds of orders, givers and all quarters: lost, told, state, sums, passes."""

from plantshand.answering import with_row
from plantshand.givers import passed


def ask_lost(desk, number):
    """Answer the call lost."""
    if number >= len(desk.orders):
        return [-1]
    return with_row(desk.losses[number], [desk.in_force_for[number]])


def ask_told(desk, number):
    """Answer the call told."""
    if number >= len(desk.orders):
        return [-1]
    order = desk.orders[number]
    return with_row(0, [order.scope, order.first, order.end, order.limit, order.came, desk.taken_back[number]])


def ask_state(desk, number):
    """Answer the call state."""
    if number >= len(desk.givers):
        return [-1]
    # whole numbers are answered, never True or False
    runs = int(desk.runs[number])
    absent = int(desk.absent[number])
    return with_row(runs, [desk.waited[number], desk.gave[number], desk.gave_ever[number], absent])


def ask_sums(desk):
    """Answer the call sums."""
    given = sum(desk.gave_ever)
    return with_row(desk.quarter, [desk.could_ever, given, desk.could_ever - given])


def ask_passes(desk, number, micros):
    """Answer the call passes."""
    if number >= len(desk.givers):
        return [-1]
    return [passed(desk.givers[number], micros)]
