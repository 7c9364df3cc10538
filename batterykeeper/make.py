"""A make: what is told of a kind of cells, and when that is right."""

# A curve has a voltage at the charge 0, and behind each of 32 parts of a full charge.
POINTS = 33


class Make:
    """A kind of cells, from a call's eighteen numbers in their order and its curve."""

    def __init__(self, numbers, curve):
        self.cells = numbers[0]
        self.wait = numbers[1]
        self.fill = numbers[2]
        self.none = numbers[3]
        self.weak = numbers[4]
        self.strong = numbers[5]
        self.least = numbers[6]
        self.most = numbers[7]
        self.leak = numbers[8]
        self.bleed_low = numbers[9]
        self.bleed_high = numbers[10]
        self.off = numbers[11]
        self.fuse = numbers[12]
        self.none2 = numbers[13]
        self.near = numbers[14]
        self.like = numbers[15]
        self.low = numbers[16]
        self.high = numbers[17]
        self.curve = list(curve)


def is_right(make):
    return (
        counts_are_right(make)
        and cells_are_right(make)
        and currents_are_right(make)
        and voltages_are_right(make)
        and curve_is_right(make.curve)
    )


def counts_are_right(make):
    return (
        1 <= make.cells <= 16
        and 1 <= make.wait <= 16
        and 1 <= make.fill <= 65536
        and make.none == 0
        and make.none2 == 0
    )


def cells_are_right(make):
    # The call hands in numbers below 0 too, a make has whole numbers alone: so each bound from above has a 0 below.
    return 2 ** 16 <= make.weak <= make.strong <= 2 ** 40 and 0 <= make.least <= make.most <= 2 ** 24


def currents_are_right(make):
    return (
        0 <= make.leak <= 2 ** 20
        and 0 <= make.bleed_low <= make.bleed_high <= 2 ** 20
        and 0 <= make.off <= 2 ** 20
        and 0 <= make.fuse <= 2 ** 22
        and make.most * make.fuse <= 2 ** 33
    )


def voltages_are_right(make):
    return (
        0 <= make.near <= 2 ** 30
        and 0 <= make.like <= 2 ** 30
        and -(2 ** 34) <= make.low <= make.high <= 2 ** 34
    )


def curve_is_right(curve):
    if len(curve) != POINTS or curve[0] < 0 or curve[POINTS - 1] > 2 ** 33:
        return False
    return all([curve[k] < curve[k + 1] for k in range(POINTS - 1)])
