"""The next quarter: who runs in it, what each could give, and what changes when it is gone through."""

from plantshand.givers import could_give, step
from plantshand.limits import brought_down, limits_under, own_losses
from plantshand.shares import shares_by


def steps(desk, coming):
    """Of each giver whether it runs in the next quarter, and how long it has waited then."""
    taken = []
    for number, giver in enumerate(desk.givers):
        if desk.absent[number]:
            taken.append((False, 0))
        else:
            taken.append(step(giver, desk.runs[number], desk.waited[number], coming[number]))
    return taken


def able_after(desk, taken, coming):
    """What each giver could give in the next quarter once it runs or stands as it has been found to."""
    able = []
    for number, giver in enumerate(desk.givers):
        able.append(could_give(giver, taken[number][0], desk.gave[number], coming[number]))
    return able


def able_next(desk, coming):
    """What each giver could give in the next quarter if that came in."""
    return able_after(desk, steps(desk, coming), coming)


def count_orders(desk, losses):
    """Count one quarter more and its own loss for each order in force."""
    in_force_for = list(desk.in_force_for)
    added = list(desk.losses)
    for number, loss in losses:
        in_force_for[number] += 1
        added[number] += loss
    desk.in_force_for = in_force_for
    desk.losses = added


def go_through(desk, coming):
    """Go through the next quarter and tell each giver's share."""
    taken = steps(desk, coming)
    able = able_after(desk, taken, coming)
    lows = brought_down(desk)
    shares = shares_by(desk.rule, desk.givers, able, limits_under(desk, lows))
    count_orders(desk, own_losses(desk, lows, able))
    desk.runs = [pair[0] for pair in taken]
    desk.waited = [pair[1] for pair in taken]
    desk.gave = shares
    desk.gave_ever = [before + share for before, share in zip(desk.gave_ever, shares)]
    desk.could_ever += sum(able)
    desk.quarter += 1
    return list(shares)
