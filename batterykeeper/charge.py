"""How much is surely left: between which two numbers a cell's charge lies.

A pair is a tuple of these two. Where what is measured can't be of such a cell (the -74 of the words), None stands.
"""

# A full charge, 2^32, and the charge between two points of a curve, 2^27.
FULL = 4294967296
PART = 134217728


def down(number, divisor):
    return number // divisor


def up(number, divisor):
    return -(-number // divisor)


def greatest_loss(make, drain):
    """The most that a charge falls by a current: a weak cell's emptying, a strong one's filling."""
    return up(drain * FULL, make.weak if drain >= 0 else make.strong)


def least_loss(make, drain):
    return down(drain * FULL, make.strong if drain >= 0 else make.weak)


def is_beyond_fuse(make, measured):
    return abs(measured) > make.fuse + make.off


def least_current(make, measured):
    return max(measured - make.off, -make.fuse)


def greatest_current(make, measured):
    return min(measured + make.off, make.fuse)


def right_pair(first, second):
    """The pair, or None; callers keep the first from falling below 0 and the second from rising above FULL."""
    return (first, second) if first <= second else None


def step(make, pair, measured, bled):
    """The pair behind a tick (bt_step)."""
    if is_beyond_fuse(make, measured):
        return None
    drain_most = greatest_current(make, measured) + make.leak + (make.bleed_high if bled else 0)
    drain_least = least_current(make, measured) + (make.bleed_low if bled else 0)
    first = max(pair[0] - greatest_loss(make, drain_most), 0)
    second = min(pair[1] - least_loss(make, drain_least), FULL)
    return right_pair(first, second)


def seen(make, pair, measured, voltage):
    """The pair at a tick's beginning, narrowed by what is measured in the tick (bt_seen)."""
    if is_beyond_fuse(make, measured) or abs(voltage) > 2 ** 35:
        return None
    least = least_current(make, measured)
    greatest = greatest_current(make, measured)
    # A current may be below 0, so any of the four may be the least and any the greatest.
    drops = [make.least * least, make.least * greatest, make.most * least, make.most * greatest]
    lowest = voltage - make.near + min(drops) - make.like
    highest = voltage + make.near + max(drops) + make.like
    if lowest > make.curve[-1] or highest < make.curve[0]:
        return None
    first = max(pair[0], charge_down(make.curve, lowest))
    second = min(pair[1], charge_up(make.curve, highest))
    return right_pair(first, second)


def charge_down(curve, voltage):
    """Where the curve comes to a voltage that isn't above its last, rounded down."""
    if voltage <= curve[0]:
        return 0
    k = 0
    while curve[k + 1] < voltage:
        k += 1
    return k * PART + down((voltage - curve[k]) * PART, curve[k + 1] - curve[k])


def charge_up(curve, voltage):
    """Where the curve comes to a voltage that isn't below its first, rounded up."""
    if voltage >= curve[-1]:
        return FULL
    k = 0
    while curve[k + 1] <= voltage:
        k += 1
    return k * PART + up((voltage - curve[k]) * PART, curve[k + 1] - curve[k])
