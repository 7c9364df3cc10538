"""The calls on one keeper, read from one list of whole numbers, and their answers in another."""

from batterykeeper.battery import FILLING, Keeper, bled_bits, currents_for_next, tick
from batterykeeper.make import Make, is_right

# The calls' numbers; the one behind them is bm_state.
START = 0
ASK = 1
TICK = 2
CELL = 3

# Of each call, how many whole numbers it has, and whether a row stands behind these.
NUMBERS = (18, 1, 2, 1, 0)
HAS_ROW = (True, False, True, False, False)

WRONG_MAKE = -22
NO_CELL = -2


class Line:
    """The one object that a list's calls are on; it has a keeper once it's started."""

    def __init__(self):
        self.keeper = None


def answers(calls):
    """All calls' answers, each with how many numbers it has before it."""
    line = Line()
    told = []
    begin = 0
    while begin < len(calls):
        call = calls[begin]
        end = begin + 1 + NUMBERS[call]
        numbers = calls[begin + 1:end]
        row = []
        if HAS_ROW[call]:
            row_begin = end + 1
            end = row_begin + calls[end]
            row = calls[row_begin:end]
        answer = answer_call(line, call, numbers, row)
        told.append(len(answer))
        told.extend(answer)
        begin = end
    return told


def answer_call(line, call, numbers, row):
    if call == START:
        return answer_start(line, Make(numbers, row))
    if call == ASK:
        return answer_ask(line.keeper, numbers[0])
    if call == TICK:
        return answer_tick(line.keeper, numbers[0], numbers[1], row)
    if call == CELL:
        return answer_cell(line.keeper, numbers[0])
    return answer_state(line.keeper)


def number_alone(number):
    return [0, number]


def number_and_four(number, four):
    return [2, number, 4] + four


def answer_start(line, make):
    if not is_right(make):
        return number_alone(WRONG_MAKE)
    line.keeper = Keeper(make)
    return number_alone(0)


def answer_ask(keeper, on):
    keeper.asked = on != 0
    return number_alone(0)


def answer_tick(keeper, measured, link, row):
    tick(keeper, measured, link, row[:keeper.make.cells])
    currents = currents_for_next(keeper)
    return number_and_four(keeper.switch, [keeper.switch, bled_bits(keeper), currents[0], currents[1]])


def answer_cell(keeper, k):
    if k >= keeper.make.cells:
        return number_alone(NO_CELL)
    pair = keeper.pairs[k]
    return [1, pair[0], pair[1]]


def answer_state(keeper):
    asked = 1 if keeper.asked else 0
    filling_ticks = keeper.filling_ticks if keeper.switch == FILLING else 0
    return number_and_four(0, [keeper.switch, asked, bled_bits(keeper), filling_ticks])
