"""Givers: which are taken, what they pass, whether they run, what they could give."""

from plantshand.tables import MICROS, left_after_loss

MOST_GIVERS = 24
MOST_CLASS = 7
MOST_WATTS = 10000000
MOST_WAIT = 96
MOST_WORTH = 65535


class Giver:
    """What is told of a giver; it stays as it is (kind is its class)."""

    def __init__(self, kind, most, start, stop, wait, up, worth, table):
        self.kind = kind
        self.most = most
        self.start = start
        self.stop = stop
        self.wait = wait
        self.up = up
        self.worth = worth
        self.table = table


def is_giver(kind, most, start, stop, wait, up, worth):
    """Whether a giver's numbers, without its table, are taken."""
    if kind > MOST_CLASS or worth > MOST_WORTH:
        return False
    if most > MOST_WATTS or start > MOST_WATTS or up > MOST_WATTS:
        return False
    return stop <= start and 1 <= wait <= MOST_WAIT


def passed(giver, micros):
    """What the giver passes of so many microwatts."""
    return min(max(left_after_loss(giver.table, micros), 0), giver.most)


def step(giver, runs, waited, micros):
    """Whether it runs in a quarter in which so much comes in, and how long it has waited then."""
    if runs:
        return (micros >= giver.stop * MICROS, 0)
    if micros < giver.start * MICROS:
        return (False, 0)
    if waited + 1 == giver.wait:
        return (True, 0)
    return (False, waited + 1)


def could_give(giver, runs, gave, micros):
    """What it could give in a quarter, after it gave so much in the one before."""
    if not runs:
        return 0
    return min(passed(giver, micros), gave + giver.up)
