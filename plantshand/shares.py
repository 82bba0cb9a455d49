"""Shares of what each could give, under limits: a row of those of classes 0 to 7 and the plant's."""

CLASSES = 8
PLANT = 8
NO_LIMIT = -1
FAIREST = 0
MOST_RULE = 1


def class_sums(givers, row):
    """What the givers of each class have together."""
    sums = [0] * CLASSES
    for giver, watts in zip(givers, row):
        sums[giver.kind] += watts
    return sums


def scope_sums(givers, row):
    """What the givers of each class, and all of them, have together."""
    return class_sums(givers, row) + [sum(row)]


def under(limit, watts):
    """So many watts, or the limit, if there is one and it is less."""
    if limit == NO_LIMIT:
        return watts
    return min(limit, watts)


def given_in_all(givers, able, limits):
    """What all give together, whichever shares that keep nothing back are told."""
    sums = class_sums(givers, able)
    return min(limits[PLANT], sum([under(limits[kind], sums[kind]) for kind in range(CLASSES)]))


def level_and_rest(able, limit):
    """How much each may have if the limit is less than all could give, and what is left over then."""
    left = limit
    sharers = len(able)
    for watts in sorted(able):
        if watts * sharers > left:
            break
        left -= watts
        sharers -= 1
    return (left // sharers, left % sharers)


def levelled(able, limit):
    """The fairest shares told under one limit for all."""
    if sum(able) <= limit:
        return list(able)
    level_rest = level_and_rest(able, limit)
    level = level_rest[0]
    rest = level_rest[1]
    shares = []
    for watts in able:
        if watts > level and rest > 0:
            shares.append(level + 1)
            rest -= 1
        else:
            shares.append(min(watts, level))
    return shares


def with_class_levelled(givers, row, kind, limit):
    """The row with the fairest shares of one class under its limit in it."""
    members = [number for number, giver in enumerate(givers) if giver.kind == kind]
    shares = list(row)
    for number, watts in zip(members, levelled([row[member] for member in members], limit)):
        shares[number] = watts
    return shares


def fairest(givers, able, limits):
    """The fairest shares told."""
    # each class may be levelled by itself first: the plant's limit then cuts all of them at one height,
    # and in a class that goes beyond it the first by number still come first
    shares = list(able)
    for kind in range(CLASSES):
        if limits[kind] != NO_LIMIT:
            shares = with_class_levelled(givers, shares, kind, limits[kind])
    return levelled(shares, limits[PLANT])


def by_worth(givers):
    """The givers' numbers by worth from the greatest, of equal worth the lower number first."""
    # sorted leaves equals in their order, reversed too
    return sorted(range(len(givers)), key=lambda number: givers[number].worth, reverse=True)


def least_losing(givers, able, limits):
    """The shares that lose least, as they are told."""
    left = list(limits)
    shares = [0] * len(able)
    for number in by_worth(givers):
        kind = givers[number].kind
        share = min(under(left[kind], able[number]), left[PLANT])
        shares[number] = share
        left[PLANT] -= share
        if left[kind] != NO_LIMIT:
            left[kind] -= share
    return shares


def shares_by(rule, givers, able, limits):
    """The shares told by a rule."""
    if rule == FAIREST:
        return fairest(givers, able, limits)
    return least_losing(givers, able, limits)
