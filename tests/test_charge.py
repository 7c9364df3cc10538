"""How much is surely left: down and up, bt_step, bt_seen and their corners."""

import unittest

from batterykeeper.charge import charge_down, charge_up, down, seen, step, up
from helper import FULL, HALF, PART, UNIT, as_object, plain, rough

# Steep in its first part, flat in its second: 3 voltages rise in the one, 7 in the other, then a great rise.
BENT = [10, 13, 20] + [1000 * k for k in range(3, 33)]


def stepped(first, second, i, bled=0, **changes):
    return step(as_object(plain(**changes)), (first, second), i, bled)


def looked(first, second, i, v, **changes):
    return seen(as_object(plain(**changes)), (first, second), i, v)


class Rounding(unittest.TestCase):
    def test_down_and_up(self):
        cases = [(7, 2, 3, 4), (-7, 2, -4, -3), (8, 2, 4, 4), (-8, 2, -4, -4), (0, 5, 0, 0), (1, 5, 0, 1), (-1, 5, -1, 0)]
        for number, divisor, below, above in cases:
            with self.subTest(number=number):
                self.assertEqual((down(number, divisor), up(number, divisor)), (below, above))


class Step(unittest.TestCase):
    def test_emptied_and_filled_by_what_is_known(self):
        self.assertEqual(stepped(HALF, HALF, 10), (HALF - 10 * UNIT, HALF - 10 * UNIT))
        self.assertEqual(stepped(HALF, HALF, -10), (HALF + 10 * UNIT, HALF + 10 * UNIT))
        self.assertEqual(stepped(HALF, HALF, 0), (HALF, HALF))

    def test_measured_nearly(self):
        self.assertEqual(stepped(HALF, HALF, 10, off=3), (HALF - 13 * UNIT, HALF - 7 * UNIT))

    def test_a_true_current_is_within_the_fuse(self):
        self.assertEqual(stepped(HALF, HALF, 99, off=3), (HALF - 100 * UNIT, HALF - 96 * UNIT))
        self.assertEqual(stepped(HALF, HALF, -99, off=3), (HALF + 96 * UNIT, HALF + 100 * UNIT))

    def test_beyond_the_fuse(self):
        self.assertEqual(stepped(HALF, HALF, 103, off=3), (HALF - 100 * UNIT, HALF - 100 * UNIT))
        self.assertEqual(stepped(HALF, HALF, -103, off=3), (HALF + 100 * UNIT, HALF + 100 * UNIT))
        self.assertIsNone(stepped(HALF, HALF, 104, off=3))
        self.assertIsNone(stepped(HALF, HALF, -104, off=3))
        self.assertIsNone(stepped(HALF, HALF, 2 ** 63 - 1))
        self.assertIsNone(stepped(HALF, HALF, -2 ** 63))

    def test_leak_is_lost_or_not(self):
        self.assertEqual(stepped(HALF, HALF, 0, leak=4), (HALF - 4 * UNIT, HALF))

    def test_bled(self):
        for bled in (1, True, 2 ** 63 - 1):
            self.assertEqual(stepped(HALF, HALF, 0, bled, leak=4, bleedLow=2, bleedHigh=5),
                             (HALF - 9 * UNIT, HALF - 2 * UNIT))
        self.assertEqual(stepped(HALF, HALF, 0, 0, bleedLow=2, bleedHigh=5), (HALF, HALF))

    def test_bled_while_it_is_charged(self):
        self.assertEqual(stepped(HALF, HALF, -10, 1, leak=1, bleedLow=2, bleedHigh=5),
                         (HALF + 4 * UNIT, HALF + 8 * UNIT))

    def test_rounded_outwards(self):
        # 2^32 / 99991 is 42953.5.., 2^32 / 99971 is 42962.1..
        weak, strong = 99971, 99991
        self.assertEqual(stepped(HALF, HALF, 1, weak=weak, strong=strong), (HALF - 42963, HALF - 42953))
        self.assertEqual(stepped(HALF, HALF, -1, weak=weak, strong=strong), (HALF + 42953, HALF + 42963))

    def test_weak_and_strong_alike(self):
        self.assertEqual(stepped(HALF, HALF, 1, weak=99991, strong=99991), (HALF - 42954, HALF - 42953))
        self.assertEqual(stepped(HALF, HALF, -1, weak=99991, strong=99991), (HALF + 42953, HALF + 42954))

    def test_the_sign_of_the_most_decides_which_strength(self):
        # Charged by 5, but leaking up to 5: the most is 0; up to 4: it's below 0.
        weak, strong = 2 ** 16, 2 ** 17
        self.assertEqual(stepped(HALF, HALF, -5, leak=5, weak=weak, strong=strong), (HALF, HALF + 5 * UNIT))
        self.assertEqual(stepped(HALF, HALF, -6, leak=4, weak=weak, strong=strong), (HALF + UNIT, HALF + 6 * UNIT))
        self.assertEqual(stepped(HALF, HALF, -6, leak=8, weak=weak, strong=strong), (HALF - 2 * UNIT, HALF + 6 * UNIT))

    def test_the_sign_of_the_least_decides_which_strength(self):
        weak, strong = 2 ** 16, 2 ** 17
        self.assertEqual(stepped(HALF, HALF, -4, 1, bleedLow=6, bleedHigh=6, weak=weak, strong=strong),
                         (HALF - 2 * UNIT, HALF - UNIT))
        self.assertEqual(stepped(HALF, HALF, -6, 1, bleedLow=4, bleedHigh=4, weak=weak, strong=strong),
                         (HALF + UNIT, HALF + 2 * UNIT))

    def test_a_charge_stays_within_its_bounds(self):
        self.assertEqual(stepped(5, FULL, 1), (0, FULL - UNIT))
        self.assertEqual(stepped(5, FULL - 5, -1), (5 + UNIT, FULL))
        self.assertEqual(stepped(UNIT, UNIT, 1), (0, 0))
        self.assertEqual(stepped(FULL - UNIT, FULL - UNIT, -1), (FULL, FULL))

    def test_none_such(self):
        self.assertIsNone(stepped(0, UNIT - 1, 1))
        self.assertEqual(stepped(0, UNIT, 1), (0, 0))
        self.assertIsNone(stepped(FULL - UNIT + 1, FULL, -1))
        self.assertEqual(stepped(FULL - UNIT, FULL, -1), (FULL, FULL))


class Seen(unittest.TestCase):
    def test_no_error_at_all(self):
        self.assertEqual(looked(0, FULL, 0, 12345), (12345, 12345))

    def test_beyond_the_fuse(self):
        for i in (103, -103):
            self.assertEqual(looked(0, FULL, i, HALF, off=3), (HALF, HALF))
        for i in (104, -104):
            self.assertIsNone(looked(0, FULL, i, HALF, off=3))

    def test_voltages_that_none_has(self):
        # However wide the errors and high the curve, no right make has a cell with such a voltage.
        high = [2 ** 33 - 32 + k for k in range(33)]
        wide = dict(near=2 ** 30, like=2 ** 30, least=0, most=2 ** 24, fuse=2 ** 9, off=2 ** 20)
        self.assertIsNone(looked(0, FULL, 0, 2 ** 35, curve=high, **wide))
        self.assertIsNone(looked(0, FULL, 0, 2 ** 35 + 1, curve=high, **wide))
        self.assertIsNone(looked(0, FULL, 0, -2 ** 35, curve=high, **wide))
        self.assertIsNone(looked(0, FULL, 0, 2 ** 63 - 1))
        self.assertIsNone(looked(0, FULL, 0, -2 ** 63))

    def test_measured_nearly_and_nearly_like_the_curve(self):
        self.assertEqual(looked(0, FULL, 0, HALF, near=100, like=20), (HALF - 120, HALF + 120))

    def test_the_four_products(self):
        cases = [(10, 2, 5, 3, 7 * 2, 13 * 5), (-10, 2, 5, 3, -13 * 5, -7 * 2), (1, 2, 5, 3, -2 * 5, 4 * 5),
                 (-1, 2, 5, 3, -4 * 5, 2 * 5), (10, 0, 5, 0, 0, 50), (99, 2, 5, 3, 96 * 2, 100 * 5),
                 (-99, 2, 5, 3, -100 * 5, -96 * 2)]
        for i, least, most, off, lowest, highest in cases:
            with self.subTest(i=i):
                self.assertEqual(looked(0, FULL, i, HALF, least=least, most=most, off=off),
                                 (HALF + lowest, HALF + highest))

    def test_narrowed_by_the_pair(self):
        self.assertEqual(looked(HALF - 50, HALF + 60, 0, HALF, near=100), (HALF - 50, HALF + 60))
        self.assertEqual(looked(HALF - 150, HALF + 60, 0, HALF, near=100), (HALF - 100, HALF + 60))
        self.assertEqual(looked(HALF - 50, HALF + 160, 0, HALF, near=100), (HALF - 50, HALF + 100))

    def test_no_right_pair(self):
        self.assertEqual(looked(HALF + 100, HALF + 500, 0, HALF, near=100), (HALF + 100, HALF + 100))
        self.assertIsNone(looked(HALF + 101, HALF + 500, 0, HALF, near=100))
        self.assertEqual(looked(0, HALF - 100, 0, HALF, near=100), (HALF - 100, HALF - 100))
        self.assertIsNone(looked(0, HALF - 101, 0, HALF, near=100))

    def test_a_pair_of_one_number(self):
        self.assertEqual(looked(7, 7, 0, 7), (7, 7))
        self.assertIsNone(looked(7, 7, 0, 8))
        self.assertIsNone(looked(7, 7, 0, 6))

    def test_rounded_outwards_between_the_corners(self):
        # From 10 to 13 in the first part: 11 lies at a third of it.
        self.assertEqual(looked(0, FULL, 0, 11, curve=BENT), (PART // 3, PART // 3 + 1))
        self.assertEqual(looked(0, FULL, 0, 12, curve=BENT), (2 * PART // 3, 2 * PART // 3 + 1))
        self.assertEqual(looked(0, FULL, 0, 14, curve=BENT), (PART + PART // 7, PART + PART // 7 + 1))

    def test_corners_of_the_curve_just_met(self):
        self.assertEqual(looked(0, FULL, 0, 13, curve=BENT), (PART, PART))
        self.assertEqual(looked(0, FULL, 0, 20, curve=BENT), (2 * PART, 2 * PART))
        self.assertEqual(looked(0, FULL, 0, 31000, curve=BENT), (31 * PART, 31 * PART))

    def test_the_curves_ends(self):
        self.assertEqual(looked(0, FULL, 0, 10, curve=BENT), (0, 0))
        self.assertEqual(looked(0, FULL, 0, 32000, curve=BENT), (FULL, FULL))
        self.assertIsNone(looked(0, FULL, 0, 9, curve=BENT))
        self.assertIsNone(looked(0, FULL, 0, 32001, curve=BENT))

    def test_beyond_the_curves_ends_but_near_enough(self):
        self.assertEqual(looked(0, FULL, 0, 8, curve=BENT, near=2), (0, 0))
        self.assertIsNone(looked(0, FULL, 0, 7, curve=BENT, near=2))
        self.assertEqual(looked(0, FULL, 0, 32002, curve=BENT, near=2), (FULL, FULL))
        self.assertIsNone(looked(0, FULL, 0, 32003, curve=BENT, near=2))
        self.assertEqual(looked(0, FULL, 0, 16, curve=BENT, near=2 ** 30), (0, FULL))

    def test_x_just_the_first_and_y_just_the_last(self):
        self.assertEqual(looked(0, FULL, 0, 12, curve=BENT, near=2), (0, PART + PART // 7 + 1))
        self.assertEqual(looked(0, FULL, 0, 31990, curve=BENT, near=10)[1], FULL)
        self.assertEqual(looked(0, FULL, 0, 31989, curve=BENT, near=10)[1], FULL - PART // 1000)

    def test_where_the_curve_comes_to(self):
        self.assertEqual([charge_down(BENT, v) for v in (-5, 10, 13, 32000)], [0, 0, PART, FULL])
        self.assertEqual([charge_up(BENT, v) for v in (10, 13, 32000, 2 ** 40)], [0, PART, FULL, FULL])


class Held(unittest.TestCase):
    def test_a_narrower_pair_gives_a_narrower_pair(self):
        make = as_object(rough())
        for i in (-900, -1, 0, 1, 900):
            wide = step(make, (HALF - 1000, HALF + 1000), i, 1)
            narrow = step(make, (HALF - 10, HALF + 20), i, 1)
            self.assertLess(wide[0], narrow[0])
            self.assertGreater(wide[1], narrow[1])


if __name__ == "__main__":
    unittest.main()
