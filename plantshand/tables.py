"""Tables, and what is left of what comes in when a table's loss is taken from it."""

MICROS = 1000000
MOST_POINTS = 24


def is_table(row):
    """Whether a row is where and how much by turns, of 1 to 24 points, where rising."""
    if len(row) == 0 or len(row) % 2 != 0 or len(row) > 2 * MOST_POINTS:
        return False
    for place in range(2, len(row), 2):
        if row[place] <= row[place - 2]:
            return False
    return True


def loss_at(table, micros):
    """The table's value at so many microwatts, in watts: a fraction's upper and lower number."""
    if micros <= table[0] * MICROS:
        return (table[1], 1)
    for place in range(2, len(table), 2):
        if micros <= table[place] * MICROS:
            wide = table[place] - table[place - 2]
            rise = table[place + 1] - table[place - 1]
            beyond = micros - table[place - 2] * MICROS
            return (table[place - 1] * wide * MICROS + rise * beyond, wide * MICROS)
    return (table[len(table) - 1], 1)


def left_after_loss(table, micros):
    """Whole watts left of so many microwatts; below 0 where the loss is greater."""
    loss = loss_at(table, micros)
    # one fraction for both, since rounding each by itself would round twice
    return (micros * loss[1] - loss[0] * MICROS) // (MICROS * loss[1])
