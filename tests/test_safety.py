"""What it may surely give: D, U, safe below and above, bt_safe, bt_most and their corners."""

import unittest

from batterykeeper.safety import (curve_times_part, greatest_fall, greatest_rise, is_safe, is_safe_above,
                                  is_safe_below, most_currents)
from helper import FULL, HALF, NONE, PART, UNIT, as_object, plain, rough

STEP = 100 * UNIT


def most(first, second, **changes):
    return most_currents(as_object(plain(**changes)), (first, second))


class FallAndRise(unittest.TestCase):
    def test_by_the_weakest_cell(self):
        make = as_object(plain(strong=2 ** 40, leak=3, bleedLow=1, bleedHigh=4))
        self.assertEqual((greatest_fall(make), greatest_rise(make)), (107 * UNIT, 100 * UNIT))

    def test_rounded_up(self):
        make = as_object(plain(weak=99991, strong=99991, fuse=1, leak=1))
        self.assertEqual((greatest_fall(make), greatest_rise(make)), (85908, 42954))

    def test_fuse_0(self):
        make = as_object(plain(fuse=0))
        self.assertEqual((greatest_fall(make), greatest_rise(make)), (0, 0))


class CurveAtACharge(unittest.TestCase):
    def test_corners_and_between(self):
        curve = [10, 13, 20] + [1000 * k for k in range(3, 33)]
        cases = [(0, 10 * PART), (1, 10 * PART + 3), (PART - 1, 13 * PART - 3), (PART, 13 * PART),
                 (PART + 2, 13 * PART + 14), (FULL - 1, 32000 * PART - 1000), (FULL, 32000 * PART)]
        for charge, wanted in cases:
            with self.subTest(charge=charge):
                self.assertEqual(curve_times_part(curve, charge), wanted)


class Safe(unittest.TestCase):
    def test_a_charge_that_comes_to_just_0(self):
        make = as_object(plain())
        for ticks in (1, 2, 64):
            self.assertTrue(is_safe_below(make, ticks * STEP, ticks))
            self.assertFalse(is_safe_below(make, ticks * STEP - 1, ticks))

    def test_a_charge_that_comes_to_just_full(self):
        make = as_object(plain())
        for ticks in (1, 2, 64):
            self.assertTrue(is_safe_above(make, FULL - ticks * STEP, ticks))
            self.assertFalse(is_safe_above(make, FULL - ticks * STEP + 1, ticks))

    def test_the_voltage_of_the_last_ticks_beginning(self):
        make = as_object(plain(low=HALF, high=HALF + PART))
        for ticks in (1, 2, 64):
            self.assertTrue(is_safe_below(make, HALF + (ticks - 1) * STEP, ticks))
            self.assertFalse(is_safe_below(make, HALF + (ticks - 1) * STEP - 1, ticks))
            self.assertTrue(is_safe_above(make, HALF + PART - (ticks - 1) * STEP, ticks))
            self.assertFalse(is_safe_above(make, HALF + PART - (ticks - 1) * STEP + 1, ticks))

    def test_like_and_the_greatest_drop_are_kept_free(self):
        make = as_object(plain(low=HALF, high=HALF + PART, like=30, least=2, most=5))
        self.assertTrue(is_safe_below(make, HALF + 530, 1))
        self.assertFalse(is_safe_below(make, HALF + 529, 1))
        self.assertTrue(is_safe_above(make, HALF + PART - 530, 1))
        self.assertFalse(is_safe_above(make, HALF + PART - 529, 1))

    def test_falls_by_leak_and_bleeding_too_but_rises_by_the_current_alone(self):
        make = as_object(plain(leak=1, bleedLow=2, bleedHigh=3))
        self.assertTrue(is_safe_below(make, 104 * UNIT, 1))
        self.assertFalse(is_safe_below(make, 104 * UNIT - 1, 1))
        self.assertTrue(is_safe_above(make, FULL - 100 * UNIT, 1))
        self.assertFalse(is_safe_above(make, FULL - 100 * UNIT + 1, 1))

    def test_compared_without_rounding(self):
        # Between 0 and 3 in the first part: one charge more is a 2^27th of 3 voltages more.
        curve = [0, 3] + [1000 * k for k in range(2, 33)]
        make = as_object(plain(fuse=0, low=1, high=1, curve=curve))
        third = PART // 3
        self.assertEqual([is_safe_below(make, third + more, 1) for more in (0, 1)], [False, True])
        self.assertEqual([is_safe_above(make, third + more, 1) for more in (0, 1)], [True, False])

    def test_a_curves_corner(self):
        curve = [0, 3] + [1000 * k for k in range(2, 33)]
        make = as_object(plain(fuse=0, low=3, high=3, curve=curve))
        self.assertEqual([is_safe(make, (PART + more, PART + more), 16) for more in (-1, 0, 1)], [False, True, False])

    def test_both_ends_of_a_pair(self):
        make = as_object(plain())
        self.assertTrue(is_safe(make, (STEP, FULL - STEP), 1))
        self.assertFalse(is_safe(make, (STEP - 1, FULL - STEP), 1))
        self.assertFalse(is_safe(make, (STEP, FULL - STEP + 1), 1))

    def test_fuse_0(self):
        make = as_object(plain(fuse=0))
        self.assertTrue(is_safe(make, (0, FULL), 64))

    def test_for_fewer_ticks_and_of_narrower_pairs_no_less(self):
        make = as_object(rough())
        for first in range(2 ** 28, 2 ** 29, 2 ** 24):
            told = [is_safe(make, (first, HALF), ticks) for ticks in range(1, 65)]
            self.assertEqual(told, sorted(told, reverse=True))
        told = [is_safe(make, (first, HALF), 5) for first in range(2 ** 28, 2 ** 30, 2 ** 22)]
        self.assertEqual(told, sorted(told))


class Most(unittest.TestCase):
    def test_all_that_the_fuse_lets_through(self):
        self.assertEqual(most(HALF, HALF), (100, 100))
        self.assertEqual(most(300 * UNIT, FULL - 300 * UNIT), (100, 100))

    def test_just_less(self):
        self.assertEqual(most(300 * UNIT - 1, FULL - 300 * UNIT + 1), (99, 99))
        self.assertEqual(most(201 * UNIT, FULL - 202 * UNIT), (1, 2))
        self.assertEqual(most(237 * UNIT, FULL - 263 * UNIT), (37, 63))

    def test_just_0_and_none(self):
        self.assertEqual(most(200 * UNIT, FULL - 200 * UNIT), (0, 0))
        self.assertEqual(most(200 * UNIT - 1, FULL - 200 * UNIT), (NONE, 0))
        self.assertEqual(most(200 * UNIT, FULL - 200 * UNIT + 1), (0, NONE))
        self.assertEqual(most(0, FULL), (NONE, NONE))

    def test_for_wait_ticks(self):
        self.assertEqual(most(150 * UNIT, FULL - 150 * UNIT, wait=1), (50, 50))
        self.assertEqual(most(1650 * UNIT, FULL - 1650 * UNIT, wait=16), (50, 50))

    def test_what_is_measured_is_off(self):
        self.assertEqual(most(250 * UNIT, FULL - 250 * UNIT, off=7), (43, 43))
        self.assertEqual(most(207 * UNIT, FULL - 207 * UNIT, off=7), (0, 0))
        self.assertEqual(most(207 * UNIT - 1, FULL - 207 * UNIT + 1, off=7), (NONE, NONE))
        self.assertEqual(most(299 * UNIT, FULL - 299 * UNIT, off=7), (92, 92))
        self.assertEqual(most(300 * UNIT, FULL - 300 * UNIT, off=7), (100, 100))

    def test_off_greater_than_fuse(self):
        self.assertEqual(most(300 * UNIT, FULL - 300 * UNIT, off=101), (100, 100))
        self.assertEqual(most(300 * UNIT - 1, FULL - 300 * UNIT + 1, off=101), (NONE, NONE))

    def test_leak_and_bleeding_count_where_it_gives_alone(self):
        changes = dict(leak=3, bleedLow=1, bleedHigh=4)
        self.assertEqual(most((2 * 107 + 57) * UNIT, FULL - 257 * UNIT, **changes), (50, 57))

    def test_fuse_0(self):
        self.assertEqual(most(0, FULL, fuse=0), (0, 0))
        self.assertEqual(most(0, FULL, fuse=0, leak=1), (NONE, 0))
        self.assertEqual(most(3 * UNIT, FULL, fuse=0, leak=1), (0, 0))
        self.assertEqual(most(3 * UNIT - 1, FULL, fuse=0, leak=1), (NONE, 0))
        self.assertEqual(most(0, FULL, fuse=0, low=1), (NONE, 0))
        self.assertEqual(most(0, FULL, fuse=0, high=FULL - 1), (0, NONE))

    def test_by_the_voltage(self):
        self.assertEqual(most(HALF + 150 * UNIT, HALF + PART - 160 * UNIT, low=HALF, high=HALF + PART), (50, 60))

    def test_a_great_fuse(self):
        changes = dict(fuse=2 ** 22, weak=2 ** 30, strong=2 ** 30, wait=1)
        # 4 of a charge go with each milliampere.
        self.assertEqual(most(4 * (2 ** 22 + 3000001), FULL - 4 * 2 ** 22 - 7, **changes), (3000001, 1))


if __name__ == "__main__":
    unittest.main()
