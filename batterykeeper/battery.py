"""A battery's keeper: its cells' pairs, which are bled, whether it's asked for, its switch."""

from batterykeeper.charge import FULL, seen, step
from batterykeeper.safety import NO_CURRENT, greatest_fall, is_safe, most_currents

OPEN = 0
FILLING = 1
CLOSED = 2
BROKEN = 3

# No more ticks with an open switch are counted.
MOST_OPEN_TICKS = 65535


class Keeper:
    """What is kept of one battery, from its start on."""

    def __init__(self, make):
        self.make = make
        self.pairs = [(0, FULL)] * make.cells
        self.bled = [False] * make.cells
        self.asked = False
        self.switch = OPEN
        self.filling_ticks = 0
        self.open_ticks = MOST_OPEN_TICKS


def tick(keeper, measured, link, voltages):
    """What one tick's measuring does to a keeper; voltages has one for each cell."""
    if keeper.switch == BROKEN:
        return
    go_on(keeper, measured, link, voltages)
    if keeper.switch == BROKEN:
        keeper.bled = [False] * keeper.make.cells


def go_on(keeper, measured, link, voltages):
    if flows_though_long_open(keeper, measured):
        keeper.switch = BROKEN
        return
    pairs = pairs_behind(keeper, measured, voltages)
    if pairs is None:
        keeper.switch = BROKEN
        return
    keeper.pairs = pairs
    turn_switch(keeper, link, sum(voltages))
    if keeper.switch == BROKEN:
        return
    keeper.bled = cells_to_bleed(keeper)
    keeper.open_ticks = min(keeper.open_ticks + 1, MOST_OPEN_TICKS) if keeper.switch == OPEN else 0


def flows_though_long_open(keeper, measured):
    return keeper.open_ticks > keeper.make.wait and abs(measured) > keeper.make.off


def pairs_behind(keeper, measured, voltages):
    """All cells' pairs behind a tick, None if a cell can't be as the make tells."""
    pairs = []
    for k in range(keeper.make.cells):
        pair = seen(keeper.make, keeper.pairs[k], measured, voltages[k])
        if pair is None:
            return None
        pair = step(keeper.make, pair, measured, keeper.bled[k])
        if pair is None:
            return None
        pairs.append(pair)
    return pairs


def turn_switch(keeper, link, voltage):
    may_be_on = keeper.asked and is_good(keeper)
    if keeper.switch == OPEN:
        if may_be_on:
            keeper.switch = FILLING
            keeper.filling_ticks = 0
    elif not may_be_on:
        keeper.switch = OPEN
    elif keeper.switch == FILLING:
        fill(keeper, link, voltage)


def is_good(keeper):
    return all([is_safe(keeper.make, pair, keeper.make.wait) for pair in keeper.pairs])


def fill(keeper, link, voltage):
    """Filling goes on, till what's driven has come to 15/16 of the battery's voltage."""
    if 16 * link >= 15 * voltage:
        keeper.switch = CLOSED
        return
    keeper.filling_ticks += 1
    if keeper.filling_ticks == keeper.make.fill:
        keeper.switch = BROKEN


def cells_to_bleed(keeper):
    # A cell is surely fuller than some other one if it's so than the one with the least second number.
    least_second = min([pair[1] for pair in keeper.pairs])
    fall = greatest_fall(keeper.make)
    return [pair[0] > least_second and pair[0] >= fall for pair in keeper.pairs]


def bled_bits(keeper):
    return sum([1 << k for k in range(keeper.make.cells) if keeper.bled[k]])


def currents_for_next(keeper):
    """How much may be asked for, and how much put in, of all cells together."""
    if keeper.switch != CLOSED:
        return (0, 0)
    told = [most_currents(keeper.make, pair) for pair in keeper.pairs]
    return (least_of([both[0] for both in told]), least_of([both[1] for both in told]))


def least_of(currents):
    return NO_CURRENT if NO_CURRENT in currents else min(currents)
