"""Point 1: bm_start, and what makes a make right."""

import unittest

from helper import (BROKEN, FULL, HALF, NAMES, OPEN, PART, ask, cell, done, last, pair, plain, start, state, stated,
                    tick, ticked, told)

GREATEST = 2 ** 63 - 1
LEAST = -2 ** 63


def curve_from(first):
    return [first + k for k in range(33)]


def curve_to(final):
    return [final - 32 + k for k in range(33)]


def curve_with(k, voltage):
    curve = [PART * k for k in range(33)]
    curve[k] = voltage
    return curve


INSIDE = [
    dict(cells=1), dict(cells=16), dict(wait=1), dict(wait=16), dict(fill=1), dict(fill=65536),
    dict(weak=2 ** 16, strong=2 ** 16), dict(weak=2 ** 40, strong=2 ** 40), dict(weak=2 ** 16, strong=2 ** 40),
    dict(least=0, most=0), dict(least=5, most=5), dict(least=2 ** 24, most=2 ** 24),
    dict(leak=0), dict(leak=2 ** 20),
    dict(bleedLow=0, bleedHigh=0), dict(bleedLow=7, bleedHigh=7), dict(bleedLow=2 ** 20, bleedHigh=2 ** 20),
    dict(off=0), dict(off=2 ** 20), dict(fuse=0), dict(fuse=2 ** 22),
    dict(most=2 ** 11, fuse=2 ** 22), dict(most=2 ** 24, fuse=2 ** 9),
    dict(near=0), dict(near=2 ** 30), dict(like=0), dict(like=2 ** 30),
    dict(low=-2 ** 34), dict(high=2 ** 34), dict(low=5, high=5), dict(low=-2 ** 34, high=-2 ** 34),
    dict(low=2 ** 34, high=2 ** 34),
    dict(curve=curve_from(0)), dict(curve=curve_to(2 ** 33)),
    dict(curve=curve_with(16, 15 * PART + 1)), dict(curve=curve_with(32, 31 * PART + 1)),
    dict(curve=curve_with(0, PART - 1)),
]

OUTSIDE = [
    dict(cells=0), dict(cells=17), dict(wait=0), dict(wait=17), dict(fill=0), dict(fill=65537),
    dict(weak=2 ** 16 - 1), dict(weak=2 ** 16 + 1, strong=2 ** 16), dict(weak=2 ** 40, strong=2 ** 40 + 1),
    dict(least=6, most=5), dict(most=2 ** 24 + 1, fuse=1), dict(least=-1),
    dict(leak=2 ** 20 + 1), dict(leak=-1),
    dict(bleedLow=8, bleedHigh=7), dict(bleedHigh=2 ** 20 + 1), dict(bleedLow=-1),
    dict(off=2 ** 20 + 1), dict(off=-1), dict(fuse=2 ** 22 + 1), dict(fuse=-1),
    dict(most=2 ** 11 + 1, fuse=2 ** 22), dict(most=2 ** 24, fuse=2 ** 9 + 1),
    dict(near=-1), dict(near=2 ** 30 + 1), dict(like=-1), dict(like=2 ** 30 + 1),
    dict(low=-2 ** 34 - 1), dict(high=2 ** 34 + 1), dict(low=6, high=5),
    dict(curve=curve_from(-1)), dict(curve=curve_to(2 ** 33 + 1)),
    dict(curve=curve_with(16, 15 * PART)), dict(curve=curve_with(16, 17 * PART)),
    dict(curve=curve_with(32, 31 * PART)), dict(curve=curve_with(0, PART)),
    dict(none=1), dict(none=-1), dict(none2=1), dict(none2=-1),
]


def small_most(make):
    """Fuse 1 leaves the product of most and fuse out of what is tried, where fuse itself isn't."""
    return plain(**{"fuse": 1, **make})


class RightMakes(unittest.TestCase):
    def test_just_inside(self):
        for changes in INSIDE:
            with self.subTest(changes=changes):
                self.assertEqual(told(start(small_most(changes))), [done()])

    def test_just_outside(self):
        for changes in OUTSIDE:
            with self.subTest(changes=changes):
                self.assertEqual(told(start(small_most(changes))), [done(-22)])

    def test_far_outside(self):
        for name in NAMES:
            for number in (GREATEST, LEAST):
                with self.subTest(name=name, number=number):
                    self.assertEqual(told(start(plain(**{name: number}))), [done(-22)])
        for k in range(33):
            for voltage in (GREATEST, LEAST):
                with self.subTest(k=k, voltage=voltage):
                    self.assertEqual(told(start(plain(curve=curve_with(k, voltage)))), [done(-22)])

    def test_a_curve_has_33_voltages(self):
        for count in (1, 32, 34):
            with self.subTest(count=count):
                self.assertEqual(told(start(plain(curve=list(range(count))))), [done(-22)])

    def test_a_number_that_is_right_in_its_last_bits_alone(self):
        for name in NAMES:
            with self.subTest(name=name):
                make = plain()
                make[name] += 2 ** 40 + 2 ** 32
                self.assertEqual(told(start(make)), [done(-22)])


class Started(unittest.TestCase):
    def test_what_it_begins_with(self):
        answers = told(start(plain(cells=3)), cell(0), cell(1), cell(2), cell(3), state())
        wide = pair(0, FULL)
        self.assertEqual(answers, [done(), wide, wide, wide, done(-2), stated(OPEN)])

    def test_open_for_long_already(self):
        """So a current in the very first tick is one too many, however long is waited."""
        for wait in (1, 16):
            self.assertEqual(last(start(plain(wait=wait)), tick(1, 0, [HALF, HALF])), ticked(BROKEN))

    def test_refused_it_changes_nothing(self):
        make = plain(bleedHigh=1)
        before = [start(make), ask(1), tick(0, 0, [HALF, HALF + PART]), tick(0, 0, [HALF, HALF + PART])]
        behind = [state(), cell(0), cell(1), cell(2), tick(5, 2 ** 40, [HALF, HALF + PART]), state(), cell(0)]
        plainly = told(*before, *behind)
        refused = told(*before, start(plain(cells=17)), *behind)
        self.assertEqual(refused, plainly[:4] + [done(-22)] + plainly[4:])
        self.assertEqual(plainly[4], stated(1, 1, 2, 1))

    def test_refused_then_started(self):
        self.assertEqual(told(start(plain(cells=0)), start(plain(weak=1)), start(plain()), state()),
                         [done(-22), done(-22), done(), stated(OPEN)])

    def test_started_anew(self):
        calls = [start(plain()), ask(1), tick(0, 0, [HALF, HALF + PART]), tick(0, 0, [HALF, HALF + PART])]
        self.assertEqual(last(*calls, state()), stated(1, 1, 2, 1))
        answers = told(*calls, start(plain(cells=1)), state(), cell(0), cell(1), tick(0, 0, [HALF]))
        self.assertEqual(answers[4:], [done(), stated(OPEN), pair(0, FULL), done(-2), ticked(OPEN)])

    def test_started_anew_it_has_been_open_for_long(self):
        self.assertEqual(last(start(plain()), ask(1), tick(0, 0, [HALF] * 2), start(plain()), tick(1, 0, [HALF] * 2)),
                         ticked(BROKEN))

    def test_broken_and_started_anew(self):
        answers = told(start(plain()), ask(1), tick(1, 0, [HALF] * 2), start(plain()), state(), ask(1),
                       tick(0, 0, [HALF] * 2), tick(0, FULL, [HALF] * 2))
        self.assertEqual(answers[2:], [ticked(BROKEN), done(), stated(OPEN), done(), ticked(1), ticked(2, 0, 100, 100)])


if __name__ == "__main__":
    unittest.main()
