"""What a cell may surely give: whether it may stay switched in, and how much may be asked of it or put in."""

from batterykeeper.charge import FULL, PART, greatest_loss

# Told where not even a current of 0 may be asked for, or put in.
NO_CURRENT = 4294967295


def greatest_fall(make):
    """The most that a charge falls in a tick (D)."""
    return greatest_loss(make, make.fuse + make.leak + make.bleed_high)


def greatest_rise(make):
    """The most that a charge rises in a tick (U)."""
    return greatest_loss(make, make.fuse)


def curve_times_part(curve, charge):
    """PART times the curve at a charge: a whole number, so that it's compared without rounding."""
    if charge == FULL:
        return curve[-1] * PART
    k = charge // PART
    return curve[k] * PART + (curve[k + 1] - curve[k]) * (charge % PART)


def is_safe_below(make, charge, ticks):
    fall = greatest_fall(make)
    if charge - ticks * fall < 0:
        return False
    bound = make.low + make.like + make.most * make.fuse
    return curve_times_part(make.curve, charge - (ticks - 1) * fall) >= bound * PART


def is_safe_above(make, charge, ticks):
    rise = greatest_rise(make)
    if charge + ticks * rise > FULL:
        return False
    bound = make.high - make.like - make.most * make.fuse
    return curve_times_part(make.curve, charge + (ticks - 1) * rise) <= bound * PART


def is_safe(make, pair, ticks):
    """Whether a pair is safe for so many ticks (bt_safe)."""
    return is_safe_below(make, pair[0], ticks) and is_safe_above(make, pair[1], ticks)


def most_currents(make, pair):
    """How much may be asked for, and how much put in, for one tick more (bt_most)."""

    def may_be_asked(current):
        drain = min(current + make.off, make.fuse) + make.leak + make.bleed_high
        return is_safe_below(make, pair[0] - greatest_loss(make, drain), make.wait)

    def may_be_put(current):
        gain = min(current + make.off, make.fuse)
        return is_safe_above(make, pair[1] + greatest_loss(make, gain), make.wait)

    return (greatest_that(make.fuse, may_be_asked), greatest_that(make.fuse, may_be_put))


def greatest_that(top, holds):
    """The greatest of 0 to top for which it holds, NO_CURRENT if there is none.

    Where it fails it fails for all that's greater, so halving finds the place.
    """
    if not holds(0):
        return NO_CURRENT
    if holds(top):
        return top
    known = 0
    failing = top
    while failing - known > 1:
        middle = (known + failing) // 2
        if holds(middle):
            known = middle
        else:
            failing = middle
    return known
