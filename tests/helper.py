"""Makes, calls and answers in the form of the interface, for all tests."""

from batterykeeper.keeper import answers
from batterykeeper.make import Make

FULL = 2 ** 32
HALF = 2 ** 31
PART = 2 ** 27
NONE = 2 ** 32 - 1
OPEN, FILLING, CLOSED, BROKEN = 0, 1, 2, 3

# One milliampere for one tick is so much of a charge, in a cell of the plain make.
UNIT = 2 ** 16

NAMES = ("cells", "wait", "fill", "none", "weak", "strong", "least", "most", "leak", "bleedLow", "bleedHigh",
         "off", "fuse", "none2", "near", "like", "low", "high")


def plain(**changes):
    """A make as a dict: nothing is off, no resistance, and a curve on which a voltage is just the charge."""
    make = dict(cells=2, wait=2, fill=3, none=0, weak=2 ** 16, strong=2 ** 16, least=0, most=0, leak=0,
                bleedLow=0, bleedHigh=0, off=0, fuse=100, none2=0, near=0, like=0, low=0, high=FULL,
                curve=[k * PART for k in range(33)])
    unknown = set(changes) - set(make)
    if unknown:
        raise KeyError(unknown)
    make.update(changes)
    return make


def rough(**changes):
    """A make in which all is known but nearly."""
    wanted = dict(weak=2 ** 17, strong=2 ** 17 + 999, least=30, most=90, leak=3, bleedLow=5, bleedHigh=9,
                  off=7, fuse=1000, near=50000, like=40000, low=2 ** 28, high=2 ** 32 - 2 ** 28)
    wanted.update(changes)
    return plain(**wanted)


def as_object(make):
    return Make([make[name] for name in NAMES], make["curve"])


def start(make):
    return [0] + [make[name] for name in NAMES] + [len(make["curve"])] + list(make["curve"])


def ask(on):
    return [1, on]


def tick(i, link, voltages):
    """A tick; what isn't told of the sixteen voltages is one that no cell has."""
    row = list(voltages) + [2 ** 63 - 1] * (16 - len(voltages))
    return [2, i, link, 16] + row


def cell(k):
    return [3, k]


def state():
    return [4]


def told(*calls):
    """The answers to these calls, each as a list, without its count."""
    numbers = answers([number for call in calls for number in call])
    split = []
    place = 0
    while place < len(numbers):
        count = numbers[place]
        split.append(numbers[place + 1:place + 1 + count])
        place += 1 + count
    if place != len(numbers) or len(split) != len(calls):
        raise AssertionError(f"{numbers} isn't {len(calls)} answers")
    return split


def last(*calls):
    return told(*calls)[-1]


def done(number=0):
    return [0, number]


def ticked(switch, bled=0, asked=0, put=0):
    return [2, switch, 4, switch, bled, asked, put]


def stated(switch, asked=0, bled=0, filling=0):
    return [2, 0, 4, switch, asked, bled, filling]


def pair(first, second):
    return [1, first, second]
