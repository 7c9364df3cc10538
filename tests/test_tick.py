"""Point 3: bm_tick, bullet by bullet, in their order."""

import unittest

from helper import (BROKEN, CLOSED, FILLING, FULL, HALF, NONE, OPEN, PART, UNIT, ask, cell, done, last, pair, plain,
                    start, state, stated, tick, ticked, told)

MIDDLE = [HALF, HALF]


def quiet(voltages=MIDDLE, link=0):
    return tick(0, link, voltages)


def to_filling(make, voltages=MIDDLE):
    return [start(make), ask(1), quiet(voltages)]


def to_closed(make, voltages=MIDDLE):
    return to_filling(make, voltages) + [quiet(voltages, 2 ** 40)]


def opened(make):
    """Calls behind which the switch has been told open once."""
    return to_closed(make) + [ask(0), quiet()]


class CurrentThoughOpen(unittest.TestCase):
    def test_the_first_tick(self):
        self.assertEqual(last(start(plain()), quiet()), ticked(OPEN))
        for i in (1, -1):
            self.assertEqual(last(start(plain()), tick(i, 0, MIDDLE)), ticked(BROKEN))

    def test_what_is_off_is_no_current(self):
        make = plain(off=7)
        for i in (7, -7):
            self.assertEqual(last(start(make), tick(i, 0, MIDDLE)), ticked(OPEN))
        for i in (8, -8):
            self.assertEqual(last(start(make), tick(i, 0, MIDDLE)), ticked(BROKEN))

    def test_pairs_stay_as_they_were(self):
        self.assertEqual(told(start(plain()), tick(1, 0, MIDDLE), cell(0), cell(1))[2:], [pair(0, FULL)] * 2)

    def test_asked_for_too(self):
        self.assertEqual(last(start(plain()), ask(1), tick(1, 0, MIDDLE)), ticked(BROKEN))

    def test_just_told_open_and_a_current_still(self):
        calls = opened(plain(wait=1))
        self.assertEqual(last(*calls), ticked(OPEN))
        self.assertEqual(last(*calls, tick(1, 0, MIDDLE)), ticked(OPEN))
        self.assertEqual(last(*calls, tick(-1, 0, MIDDLE), cell(0)), pair(HALF + UNIT, HALF + UNIT))

    def test_open_for_just_wait_ticks_and_for_more(self):
        for wait in (1, 2, 16):
            calls = opened(plain(wait=wait)) + [quiet()] * (wait - 1)
            with self.subTest(wait=wait):
                self.assertEqual(last(*calls, tick(1, 0, MIDDLE)), ticked(OPEN))
                self.assertEqual(last(*calls, quiet(), tick(1, 0, MIDDLE)), ticked(BROKEN))
                self.assertEqual(last(*calls, quiet(), tick(-1, 0, MIDDLE)), ticked(BROKEN))

    def test_filling_or_closed_begins_the_count_anew(self):
        make = plain(wait=2)
        again = opened(make) + [quiet(), quiet(), ask(1), quiet()]
        self.assertEqual(last(*again), ticked(FILLING))
        self.assertEqual(last(*again, tick(5, 0, MIDDLE)), ticked(FILLING))
        calls = again + [ask(0), quiet(), quiet()]
        self.assertEqual(last(*calls), ticked(OPEN))
        self.assertEqual(last(*calls, tick(5, 0, MIDDLE)), ticked(OPEN))
        self.assertEqual(last(*calls, quiet(), tick(5, 0, MIDDLE)), ticked(BROKEN))

    def test_told_ahead_of_a_cell_that_is_not_as_told(self):
        self.assertEqual(told(start(plain()), tick(1, 0, [HALF, -9]), cell(0))[1:], [ticked(BROKEN), pair(0, FULL)])


class CellsNotAsTold(unittest.TestCase):
    def test_a_voltage_that_none_has(self):
        for voltages in ([HALF, -1], [-1, HALF], [FULL + 1, HALF], [HALF, FULL + 1], [2 ** 63 - 1, 0], [0, -2 ** 63]):
            answers = told(start(plain()), quiet(voltages), cell(0), cell(1), state())
            with self.subTest(voltages=voltages):
                self.assertEqual(answers[1:], [ticked(BROKEN), pair(0, FULL), pair(0, FULL), stated(BROKEN)])

    def test_the_curves_ends_are_had(self):
        answers = told(start(plain()), quiet([0, FULL]), cell(0), cell(1))
        self.assertEqual(answers[1:], [ticked(OPEN, 2), pair(0, 0), pair(FULL, FULL)])

    def test_all_pairs_stay_as_they_were(self):
        calls = [start(plain(near=5)), quiet([HALF, HALF + PART])]
        pairs = [pair(HALF - 5, HALF + 5), pair(HALF + PART - 5, HALF + PART + 5)]
        self.assertEqual(told(*calls, cell(0), cell(1))[2:], pairs)
        answers = told(*calls, quiet([HALF + 3, HALF]), cell(0), cell(1))
        self.assertEqual(answers[2:], [ticked(BROKEN)] + pairs)

    def test_a_current_beyond_the_fuse(self):
        calls = to_closed(plain(off=3))
        for i in (103, -103):
            self.assertEqual(last(*calls, tick(i, 0, MIDDLE))[1], CLOSED)
        for i in (104, -104, 2 ** 63 - 1, -2 ** 63):
            answers = told(*calls, cell(0), tick(i, 0, MIDDLE), cell(0))
            self.assertEqual(answers[-2], ticked(BROKEN))
            self.assertEqual(answers[-1], answers[-3])

    def test_a_charge_that_the_pair_does_not_have(self):
        calls = to_closed(plain()) + [tick(100, 0, MIDDLE)]
        self.assertEqual(last(*calls, tick(0, 0, [HALF - 100 * UNIT] * 2))[1], CLOSED)
        self.assertEqual(last(*calls, tick(0, 0, [HALF - 100 * UNIT, HALF]))[1], BROKEN)

    def test_bt_step_alone_tells_it(self):
        """Just emptied, or filled, by the tick that opened it; what is seen is right, but there's no more to flow."""
        for charge, i, end in ((100 * UNIT, 100, 0), (FULL - 100 * UNIT, -100, FULL)):
            calls = to_closed(plain(wait=1), [HALF, charge]) + [tick(i, 0, [HALF, charge])]
            pairs = [pair(HALF - i * UNIT, HALF - i * UNIT), pair(end, end)]
            voltages = [HALF - i * UNIT, end]
            with self.subTest(charge=charge):
                self.assertEqual(last(*calls)[1], OPEN)
                self.assertEqual(told(*calls, cell(0), cell(1))[-2:], pairs)
                self.assertEqual(last(*calls, tick(0, 0, voltages))[1], OPEN)
                answers = told(*calls, tick(i // 100, 0, voltages), cell(0), cell(1))
                self.assertEqual(answers[-3:], [ticked(BROKEN)] + pairs)

    def test_seen_first_then_stepped(self):
        """The voltage is that of the tick's beginning, the pair that of its end."""
        calls = to_closed(plain())
        self.assertEqual(told(*calls, tick(7, 0, MIDDLE), cell(0))[-1], pair(HALF - 7 * UNIT, HALF - 7 * UNIT))

    def test_voltages_of_more_cells_than_there_are_are_not_looked_at(self):
        calls = [start(plain(cells=1)), ask(1)]
        for other in (2 ** 63 - 1, -2 ** 63, 0):
            answers = told(*calls, [2, 0, 0, 16, HALF] + [other] * 15, [2, 0, HALF, 16, HALF] + [other] * 15)
            self.assertEqual(answers[2:], [ticked(FILLING), ticked(CLOSED, 0, 100, 100)])

    def test_sixteen_cells_are_all_looked_at(self):
        for k in range(16):
            voltages = [HALF] * 16
            voltages[k] = -1
            self.assertEqual(last(start(plain(cells=16)), quiet(voltages)), ticked(BROKEN))


class Switch(unittest.TestCase):
    def test_open_filling_closed_and_back(self):
        answers = told(start(plain()), quiet(), ask(1), quiet(), quiet(), quiet(MIDDLE, FULL), quiet(), ask(0),
                       quiet(), quiet())
        self.assertEqual(answers[1:], [ticked(OPEN), done(), ticked(FILLING), ticked(FILLING),
                                         ticked(CLOSED, 0, 100, 100), ticked(CLOSED, 0, 100, 100), done(),
                                         ticked(OPEN), ticked(OPEN)])

    def test_filling_and_back(self):
        self.assertEqual(last(*to_filling(plain()), ask(0), quiet(MIDDLE, FULL)), ticked(OPEN))
        # Open again it fills from the beginning.
        calls = to_filling(plain(fill=2)) + [quiet(), ask(0), quiet(), ask(1), quiet()]
        self.assertEqual(told(*calls, state(), quiet(), state())[-3:],
                         [stated(FILLING, 1), ticked(FILLING), stated(FILLING, 1, 0, 1)])

    def test_at_least_one_tick_is_filled(self):
        self.assertEqual(last(start(plain()), ask(1), quiet(MIDDLE, FULL)), ticked(FILLING))

    def test_not_good_it_is_not_closed(self):
        low = [2 * 100 * UNIT, HALF]
        self.assertEqual(last(start(plain()), ask(1), quiet(low)), ticked(FILLING, 2))
        low[0] -= 1
        self.assertEqual(last(start(plain()), ask(1), quiet(low)), ticked(OPEN, 2))
        high = [HALF, FULL - 2 * 100 * UNIT]
        self.assertEqual(last(start(plain()), ask(1), quiet(high)), ticked(FILLING, 2))
        high[1] += 1
        self.assertEqual(last(start(plain()), ask(1), quiet(high)), ticked(OPEN, 2))

    def test_good_for_wait_ticks(self):
        for wait in (1, 16):
            make = plain(wait=wait, cells=1)
            self.assertEqual(last(start(make), ask(1), quiet([wait * 100 * UNIT])), ticked(FILLING))
            self.assertEqual(last(start(make), ask(1), quiet([wait * 100 * UNIT - 1])), ticked(OPEN))

    def test_no_more_good_while_filling(self):
        make = plain(cells=1, wait=1, leak=1)
        calls = [start(make), ask(1), quiet([102 * UNIT])]
        self.assertEqual(last(*calls), ticked(FILLING))
        self.assertEqual(last(*calls, tick(1, FULL, [102 * UNIT])), ticked(OPEN))

    def test_no_more_good_while_closed(self):
        make = plain(cells=1, wait=1)
        calls = [start(make), ask(1), quiet([101 * UNIT]), quiet([101 * UNIT], FULL)]
        self.assertEqual(last(*calls), ticked(CLOSED, 0, 1, 100))
        self.assertEqual(last(*calls, tick(1, 0, [101 * UNIT])), ticked(CLOSED, 0, 0, 100))
        self.assertEqual(last(*calls, tick(2, 0, [101 * UNIT])), ticked(OPEN))
        self.assertEqual(last(*calls, tick(2, 0, [101 * UNIT]), quiet([99 * UNIT], FULL)), ticked(OPEN))

    def test_any_one_cell_is_enough_to_open(self):
        for k in range(16):
            voltages = [HALF] * 16
            voltages[k] = 0
            wanted = ticked(OPEN, 2 ** 16 - 1 - 2 ** k)
            self.assertEqual(last(start(plain(cells=16)), ask(1), quiet(voltages)), wanted)

    def test_link_just_enough_and_just_not(self):
        # The sum is 2^32, and 15 sixteenths of it 15 * 2^28.
        calls = to_filling(plain())
        self.assertEqual(last(*calls, quiet(MIDDLE, 15 * 2 ** 28))[1], CLOSED)
        self.assertEqual(last(*calls, quiet(MIDDLE, 15 * 2 ** 28 - 1))[1], FILLING)
        # 15 times the sum isn't a multiple of 16 here.
        odd = [HALF, HALF + 1]
        calls = to_filling(plain(), odd)
        self.assertEqual(last(*calls, quiet(odd, 15 * 2 ** 28 + 1))[1], CLOSED)
        self.assertEqual(last(*calls, quiet(odd, 15 * 2 ** 28))[1], FILLING)

    def test_link_of_any_number(self):
        calls = to_filling(plain())
        self.assertEqual(last(*calls, quiet(MIDDLE, 2 ** 63 - 1))[1], CLOSED)
        self.assertEqual(last(*calls, quiet(MIDDLE, -2 ** 63))[1], FILLING)

    def test_link_is_of_no_matter_once_it_is_closed(self):
        self.assertEqual(last(*to_closed(plain()), quiet(MIDDLE, -2 ** 63))[1], CLOSED)

    def test_a_sum_below_0(self):
        make = plain(cells=1, near=1000, low=-2 ** 30, fuse=0)
        calls = [start(make), ask(1), quiet([-160])]
        self.assertEqual(last(*calls), ticked(FILLING))
        self.assertEqual(last(*calls, quiet([-160], -150))[1], CLOSED)
        self.assertEqual(last(*calls, quiet([-160], -151))[1], FILLING)

    def test_filling_for_too_long(self):
        for fill in (1, 2, 3, 50):
            calls = to_filling(plain(fill=fill)) + [quiet()] * (fill - 1)
            with self.subTest(fill=fill):
                self.assertEqual(last(*calls, state()), stated(FILLING, 1, 0, fill - 1))
                self.assertEqual(last(*calls, quiet()), ticked(BROKEN))
                self.assertEqual(last(*calls, quiet(MIDDLE, FULL))[1], CLOSED)
                self.assertEqual(last(*calls, ask(0), quiet()), ticked(OPEN))

    def test_broken_by_filling_the_pairs_have_gone_on(self):
        calls = to_filling(plain(fill=1, leak=1)) + [tick(5, 0, MIDDLE), cell(0)]
        # Leaking has made the pair wider in the tick before, the voltage narrows it again.
        self.assertEqual(told(*calls)[-2:], [ticked(BROKEN), pair(HALF - 6 * UNIT, HALF - 5 * UNIT)])


class Bled(unittest.TestCase):
    def bits(self, make, voltages):
        return last(start(make), quiet(voltages))[4]

    def test_fuller_than_another_surely(self):
        self.assertEqual(self.bits(plain(), [HALF, HALF]), 0)
        self.assertEqual(self.bits(plain(), [HALF + 1, HALF]), 1)
        self.assertEqual(self.bits(plain(), [HALF, HALF + 1]), 2)

    def test_not_surely(self):
        make = plain(near=5)
        self.assertEqual(self.bits(make, [HALF, HALF + 10]), 0)
        self.assertEqual(self.bits(make, [HALF, HALF + 11]), 2)

    def test_all_but_the_emptiest(self):
        make = plain(cells=16)
        voltages = [HALF + k for k in range(16)]
        self.assertEqual(self.bits(make, voltages), 2 ** 16 - 2)
        self.assertEqual(self.bits(make, voltages[::-1]), 2 ** 15 - 1)
        self.assertEqual(self.bits(make, [HALF] * 16), 0)

    def test_not_below_the_greatest_fall(self):
        make = plain(leak=1, bleedHigh=2)
        self.assertEqual(self.bits(make, [0, 104 * UNIT]), 2)
        self.assertEqual(self.bits(make, [0, 104 * UNIT - 1]), 0)
        self.assertEqual(self.bits(make, [0, 103 * UNIT]), 0)

    def test_the_pair_behind_the_tick_counts(self):
        make = plain(leak=1)
        # Its first falls by the leak, and that isn't above what the other one's second is.
        self.assertEqual(self.bits(make, [HALF, HALF + UNIT]), 0)
        self.assertEqual(self.bits(make, [HALF, HALF + UNIT + 1]), 2)

    def test_just_the_greatest_fall(self):
        make = plain()
        self.assertEqual(self.bits(make, [0, 100 * UNIT]), 2)
        self.assertEqual(self.bits(make, [0, 100 * UNIT - 1]), 0)

    def test_one_cell(self):
        self.assertEqual(self.bits(plain(cells=1), [HALF]), 0)

    def test_bled_from_the_next_tick_on(self):
        make = plain(bleedLow=2, bleedHigh=3)
        calls = [start(make), quiet([HALF, HALF + PART])]
        self.assertEqual(told(*calls, cell(1))[1:], [ticked(OPEN, 2), pair(HALF + PART, HALF + PART)])
        self.assertEqual(told(*calls, quiet([HALF, HALF + PART]), cell(0), cell(1))[3:],
                         [pair(HALF, HALF), pair(HALF + PART - 3 * UNIT, HALF + PART - 2 * UNIT)])

    def test_bled_as_it_was(self):
        """The tick in which a cell comes to be even still has it bled, the next one hasn't."""
        make = plain(bleedLow=2, bleedHigh=2)
        calls = [start(make), quiet([HALF, HALF + UNIT])]
        self.assertEqual(last(*calls), ticked(OPEN, 2))
        calls += [quiet([HALF, HALF + UNIT])]
        self.assertEqual(told(*calls, cell(1))[2:], [ticked(OPEN, 1), pair(HALF - UNIT, HALF - UNIT)])
        calls += [quiet([HALF, HALF - UNIT])]
        self.assertEqual(told(*calls, cell(0), cell(1))[3:],
                         [ticked(OPEN, 2), pair(HALF - 2 * UNIT, HALF - 2 * UNIT), pair(HALF - UNIT, HALF - UNIT)])

    def test_bled_while_it_is_charged(self):
        make = plain(bleedLow=2, bleedHigh=3)
        voltages = [HALF, HALF + PART]
        calls = [start(make), ask(1), quiet(voltages), tick(-50, FULL * 2, [HALF, HALF + PART])]
        answers = told(*calls, cell(0), cell(1))
        self.assertEqual(answers[2:], [ticked(FILLING, 2), ticked(CLOSED, 2, 100, 100),
                                       pair(HALF + 50 * UNIT, HALF + 50 * UNIT),
                                       pair(HALF + PART + 47 * UNIT, HALF + PART + 48 * UNIT)])

    def test_in_every_state_but_broken(self):
        voltages = [HALF, HALF + PART]
        calls = [start(plain(fill=1)), ask(1), quiet(voltages)]
        self.assertEqual(last(*calls), ticked(FILLING, 2))
        self.assertEqual(last(*calls, quiet(voltages, FULL * 2)), ticked(CLOSED, 2, 100, 100))
        self.assertEqual(last(*calls, ask(0), quiet(voltages)), ticked(OPEN, 2))
        self.assertEqual(last(*calls, quiet(voltages)), ticked(BROKEN))
        self.assertEqual(last(*calls, quiet([-1, 0])), ticked(BROKEN))
        self.assertEqual(last(start(plain()), quiet(voltages), tick(1, 0, voltages), state()), stated(BROKEN))


class Currents(unittest.TestCase):
    def test_none_where_it_is_not_closed(self):
        self.assertEqual(last(start(plain()), quiet()), ticked(OPEN, 0, 0, 0))
        self.assertEqual(last(*to_filling(plain())), ticked(FILLING, 0, 0, 0))
        # Open by being nearly empty, where bt_most tells that there is none.
        self.assertEqual(last(start(plain()), ask(1), quiet([0, 0])), ticked(OPEN, 0, 0, 0))

    def test_the_least_of_all_cells(self):
        voltages = [240 * UNIT, 230 * UNIT, 250 * UNIT]
        self.assertEqual(last(*to_closed(plain(cells=3), voltages)), ticked(CLOSED, 5, 30, 100))
        voltages = [FULL - 240 * UNIT, FULL - 230 * UNIT, FULL - 250 * UNIT]
        self.assertEqual(last(*to_closed(plain(cells=3), voltages)), ticked(CLOSED, 3, 100, 30))

    def test_each_way_of_its_own_cell(self):
        self.assertEqual(last(*to_closed(plain(), [FULL - 240 * UNIT, 210 * UNIT])), ticked(CLOSED, 1, 10, 40))
        self.assertEqual(last(*to_closed(plain(), [210 * UNIT, FULL - 240 * UNIT])), ticked(CLOSED, 2, 10, 40))

    def test_none_if_any_cell_tells_none(self):
        make = plain(off=20)
        # Safe for wait ticks, but not so with another one's error behind it.
        for voltages, bled in (([230 * UNIT, HALF], 2), ([HALF, 230 * UNIT], 1)):
            answer = last(*to_closed(make, voltages))
            self.assertEqual(answer, ticked(CLOSED, bled, NONE, 100))
        for voltages, bled in (([FULL - 230 * UNIT, HALF], 1), ([HALF, FULL - 230 * UNIT], 2)):
            answer = last(*to_closed(make, voltages))
            self.assertEqual(answer, ticked(CLOSED, bled, 100, NONE))
        self.assertEqual(last(*to_closed(make, [230 * UNIT, FULL - 230 * UNIT])), ticked(CLOSED, 2, NONE, NONE))

    def test_what_is_told_may_be_used(self):
        make = plain(cells=1, wait=1, off=3)
        near = 150 * UNIT
        calls = [start(make), ask(1), quiet([near]), quiet([near], FULL)]
        asked = last(*calls)[5]
        self.assertEqual(last(*calls), ticked(CLOSED, 0, 44, 100))
        self.assertEqual(last(*calls, tick(asked, 0, [near - 3 * UNIT]))[1], CLOSED)
        self.assertEqual(last(*calls, tick(asked + 7, 0, [near - 3 * UNIT]))[1], OPEN)

    def test_fuse_0(self):
        self.assertEqual(last(*to_closed(plain(fuse=0), [0, FULL]))[1], CLOSED)
        self.assertEqual(last(*to_closed(plain(fuse=0), [0, FULL]))[5:], [0, 0])


class Broken(unittest.TestCase):
    def test_it_stays_as_it_is(self):
        calls = [start(plain()), quiet([HALF, HALF + PART]), tick(1, 0, MIDDLE)]
        more = [quiet(), ask(1), quiet(MIDDLE, FULL), tick(2 ** 63 - 1, -2 ** 63, [-2 ** 63] * 16), quiet([0, FULL])]
        answers = told(*calls, *more, cell(0), cell(1), state())
        self.assertEqual(answers[2:], [ticked(BROKEN), ticked(BROKEN), done(), ticked(BROKEN), ticked(BROKEN),
                                       ticked(BROKEN), pair(HALF, HALF), pair(HALF + PART, HALF + PART),
                                       stated(BROKEN, 1)])

    def test_asking_it_no_more_does_not_open_it(self):
        calls = to_filling(plain(fill=1)) + [quiet()]
        self.assertEqual(told(*calls, ask(0), quiet(), state())[-3:], [done(), ticked(BROKEN), stated(BROKEN)])


class PairsOfOneNumber(unittest.TestCase):
    def test_they_stay_of_one_number_where_nothing_is_off(self):
        calls = to_closed(plain())
        charge = HALF
        for i in (100, -37, 0, 99, -100):
            calls.append(tick(i, 0, [charge] * 2))
            charge -= i * UNIT
            self.assertEqual(told(*calls, cell(0), cell(1))[-2:], [pair(charge, charge)] * 2)
            self.assertEqual(last(*calls), ticked(CLOSED, 0, 100, 100))


if __name__ == "__main__":
    unittest.main()
