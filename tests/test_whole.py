"""The whole keeper against true batteries ("What holds"), and against the document's words taken once more.

Both go through many makes and ticks, always the same ones. The words are taken here by fractions and by trying each
part of a curve, so that a slip in the program's whole numbers isn't made twice.
"""

import random
import unittest
from fractions import Fraction
from math import ceil, floor

from helper import (BROKEN, CLOSED, FILLING, FULL, NONE, OPEN, PART, ask, cell, plain, start, state, tick, told)


def curve_at(curve, charge):
    k = min(floor(Fraction(charge) / PART), 31)
    return curve[k] + (curve[k + 1] - curve[k]) * Fraction(charge - k * PART, PART)


def charge_at(curve, voltage):
    """Where the curve comes to a voltage, as a fraction; its ends for what's beyond them."""
    if voltage <= curve[0]:
        return Fraction(0)
    for k in range(32):
        if curve[k] <= voltage <= curve[k + 1]:
            return k * PART + Fraction((voltage - curve[k]) * PART, curve[k + 1] - curve[k])
    return Fraction(FULL)


def share(current, strength):
    return Fraction(current * FULL, strength)


class Words:
    """The document's words, one by one."""

    def __init__(self, make):
        self.m = make
        self.pairs = [(0, FULL)] * make["cells"]
        self.bled = set()
        self.asked = False
        self.switch = OPEN
        self.filling = 0
        self.opened = 65535

    def flows(self, i):
        m = self.m
        return max(i - m["off"], -m["fuse"]), min(i + m["off"], m["fuse"])

    def seen(self, pair, i, v):
        m = self.m
        if abs(v) > 2 ** 35 or not -m["fuse"] - m["off"] <= i <= m["fuse"] + m["off"]:
            return None
        products = [r * flow for r in (m["least"], m["most"]) for flow in self.flows(i)]
        x = v - m["near"] + min(products) - m["like"]
        y = v + m["near"] + max(products) + m["like"]
        if x > m["curve"][32] or y < m["curve"][0]:
            return None
        first = max(pair[0], floor(charge_at(m["curve"], x)))
        second = min(pair[1], ceil(charge_at(m["curve"], y)))
        return (first, second) if first <= second else None

    def step(self, pair, i, bled):
        m = self.m
        least, most = self.flows(i)
        a = most + m["leak"] + bled * m["bleedHigh"]
        b = least + bled * m["bleedLow"]
        # The most that falls is that of the worse strength, whichever it is.
        first = max(0, pair[0] - max(ceil(share(a, m["weak"])), ceil(share(a, m["strong"]))))
        second = min(FULL, pair[1] - min(floor(share(b, m["weak"])), floor(share(b, m["strong"]))))
        return (first, second) if first <= second else None

    def fall(self):
        m = self.m
        return ceil(share(m["fuse"] + m["leak"] + m["bleedHigh"], m["weak"]))

    def safe_below(self, z, k):
        m = self.m
        return z - k * self.fall() >= 0 and (curve_at(m["curve"], z - (k - 1) * self.fall())
                                             >= m["low"] + m["like"] + m["most"] * m["fuse"])

    def safe_above(self, z, k):
        m = self.m
        rise = ceil(share(m["fuse"], m["weak"]))
        return z + k * rise <= FULL and (curve_at(m["curve"], z + (k - 1) * rise)
                                         <= m["high"] - m["like"] - m["most"] * m["fuse"])

    def good(self):
        wait = self.m["wait"]
        return all(self.safe_below(first, wait) and self.safe_above(second, wait) for first, second in self.pairs)

    def may_ask(self, i):
        m = self.m
        falls = ceil(share(min(i + m["off"], m["fuse"]) + m["leak"] + m["bleedHigh"], m["weak"]))
        return all(self.safe_below(first - falls, m["wait"]) for first, second in self.pairs)

    def may_put(self, i):
        m = self.m
        rises = ceil(share(min(i + m["off"], m["fuse"]), m["weak"]))
        return all(self.safe_above(second + rises, m["wait"]) for first, second in self.pairs)

    def tick(self, i, v, link):
        if self.switch != BROKEN:
            self.live(i, v[:self.m["cells"]], link)
        if self.switch == BROKEN:
            self.bled = set()

    def live(self, i, v, link):
        m = self.m
        if self.opened > m["wait"] and not -m["off"] <= i <= m["off"]:
            self.switch = BROKEN
            return
        pairs = [self.seen(pair, i, v[k]) for k, pair in enumerate(self.pairs)]
        pairs = [pair and self.step(pair, i, k in self.bled) for k, pair in enumerate(pairs)]
        if None in pairs:
            self.switch = BROKEN
            return
        self.pairs = pairs
        if self.switch == OPEN and self.asked and self.good():
            self.switch, self.filling = FILLING, 0
        elif self.switch in (FILLING, CLOSED) and not (self.asked and self.good()):
            self.switch = OPEN
        elif self.switch == FILLING and Fraction(link) >= Fraction(15, 16) * sum(v):
            self.switch = CLOSED
        elif self.switch == FILLING:
            self.filling += 1
            if self.filling == m["fill"]:
                self.switch = BROKEN
                return
        self.bled = {k for k, (first, _) in enumerate(pairs)
                     if any(first > second for _, second in pairs) and first >= self.fall()}
        self.opened = min(65535, self.opened + 1) if self.switch == OPEN else 0

    def bits(self):
        return sum(2 ** k for k in self.bled)


class TrueBattery:
    """Cells as the make tells, each with its own strength, resistance, curve."""

    def __init__(self, make, rng):
        self.m = make
        self.rng = rng
        cells = range(make["cells"])
        self.strengths = [rng.choice([make["weak"], make["strong"], rng.randint(make["weak"], make["strong"])])
                          for _ in cells]
        self.resistances = [rng.choice([make["least"], make["most"]]) for _ in cells]
        middle = rng.randint(FULL // 8, FULL - FULL // 8)
        self.charges = [Fraction(min(FULL, max(0, middle + rng.randint(-FULL // 30, FULL // 30)))) for _ in cells]

    def voltages(self, current):
        like = self.m["like"]
        return [curve_at(self.m["curve"], charge) + self.rng.choice([-like, like, self.rng.randint(-like, like)])
                - resistance * current for charge, resistance in zip(self.charges, self.resistances)]

    def flow(self, current, bled, may_flow):
        m = self.m
        for k, charge in enumerate(self.charges):
            drain = current + self.rng.choice([0, m["leak"], Fraction(m["leak"], 3)])
            if bled >> k & 1:
                drain += self.rng.choice([m["bleedLow"], m["bleedHigh"]])
            charge -= share(1, self.strengths[k]) * drain
            self.charges[k] = charge if may_flow else min(Fraction(FULL), max(Fraction(0), charge))


def random_curve(rng):
    steps = [rng.choice([1, 5, 1000, 10 ** 6, 10 ** 8, rng.randint(1, 2 ** 27)]) + 10 ** 6 * rng.randint(0, 9)
             for _ in range(32)]
    curve = [rng.randint(0, 2 ** 31)]
    for rise in steps:
        curve.append(curve[-1] + rise)
    return curve


def corner_make(rng):
    """A make with its numbers at the ends of what is right."""
    weak = rng.choice([2 ** 16, 2 ** 33, 2 ** 40])
    most, fuse = rng.choice([(2 ** 24, 2 ** 9), (2 ** 11, 2 ** 22), (0, 2 ** 22), (2 ** 24, 0)])
    top = rng.choice([32, 2 ** 20, 2 ** 33])
    curve = [k * top // 32 for k in range(33)]
    return plain(
        cells=rng.choice([1, 16]), wait=rng.choice([1, 16]), fill=rng.choice([1, 65536]),
        weak=weak, strong=rng.choice([weak, 2 ** 40]), least=rng.choice([0, most]), most=most,
        leak=rng.choice([0, 2 ** 20]), bleedLow=rng.choice([0, 2 ** 20]), bleedHigh=2 ** 20,
        off=rng.choice([0, 2 ** 20]), fuse=fuse, near=rng.choice([1, 2 ** 30]), like=rng.choice([0, 2 ** 30]),
        low=rng.choice([-2 ** 34, 0, curve[16]]), high=rng.choice([2 ** 34, curve[32], curve[16]]), curve=curve)


def random_make(rng):
    if rng.random() < 0.2:
        return corner_make(rng)
    weak = rng.choice([2 ** 16, 2 ** 17, 99991, rng.randint(2 ** 16, 2 ** 18)])
    curve = random_curve(rng)
    fuse = rng.choice([0, 1, 30, 500, 4000, rng.randint(0, 9000)])
    return plain(
        cells=rng.choice([1, 2, 3, 5, 16]), wait=rng.choice([1, 1, 2, 3, 4]), fill=rng.choice([1, 2, 5, 400]),
        weak=weak, strong=weak + rng.choice([0, 1, weak // 50]), least=rng.choice([0, 10]), most=rng.choice([10, 400]),
        leak=rng.choice([0, 1, 7, 50]), bleedLow=rng.choice([0, 3]), bleedHigh=rng.choice([3, 40]),
        off=rng.choice([0, 1, 5, 40, fuse + 3]), fuse=fuse, near=rng.choice([1, 1000, 10 ** 7]),
        like=rng.choice([0, 100, 10 ** 7]), low=curve[rng.choice([0, 1, 3])] - rng.choice([0, 10 ** 7, 2 ** 30]),
        high=curve[rng.choice([29, 31, 32])] + rng.choice([0, 10 ** 7, 2 ** 30]), curve=curve)


class Run:
    """One battery and its keeper through many ticks; the keeper is asked through the interface alone."""

    def __init__(self, test, seed, honest):
        self.test = test
        self.rng = random.Random(seed)
        self.honest = honest
        self.m = random_make(self.rng)
        self.battery = TrueBattery(self.m, self.rng)
        self.words = Words(self.m)
        self.calls = [start(self.m)]
        # What the words want of each call, for when all calls are asked at once behind the last tick.
        self.wanted = [[0, 0]]
        self.history = []

    def ticks(self, count):
        for _ in range(count):
            if self.rng.random() < 0.15:
                on = self.rng.choice([0, 1, 1, 1, 7])
                self.calls.append(ask(on))
                self.wanted.append([0, 0])
                self.words.asked = on != 0
            self.one_tick()
        return self

    def may_flow(self):
        return any(switch in (FILLING, CLOSED) for switch in self.history[-self.m["wait"]:])

    def current(self):
        """A true current and what is measured of it."""
        m, rng = self.m, self.rng
        true = 0
        if self.may_flow():
            true = rng.choice([0, m["fuse"], -m["fuse"], rng.randint(-m["fuse"], m["fuse"])])
            if self.words.switch == CLOSED and rng.random() < 0.7:
                true = rng.choice([1, -1]) * rng.randint(0, m["fuse"] // 4)
        return true, true + rng.choice([-m["off"], 0, m["off"], rng.randint(-m["off"], m["off"])])

    def one_tick(self):
        m, rng, words = self.m, self.rng, self.words
        true, i = self.current()
        voltages = self.battery.voltages(true)
        may_flow = self.may_flow()
        if self.honest and may_flow:
            self.test.assertTrue(all(m["low"] <= v <= m["high"] for v in voltages))
        v = [floor(voltage) + rng.choice([1 - m["near"], 0, m["near"]]) for voltage in voltages]
        if not self.honest and rng.random() < 0.02:
            v[rng.randrange(m["cells"])] += rng.choice([1, -1]) * rng.choice([m["near"], 2 ** 28, 2 ** 36])
        if not self.honest and rng.random() < 0.02:
            i += rng.choice([1, -1]) * rng.choice([m["off"] + 1, m["fuse"] + m["off"]])
        link = 15 * sum(v) // 16 + rng.choice([-1, 0, 1, 10 ** 9, -10 ** 9])
        before = (words.switch, words.filling, self.usable(i))
        self.battery.flow(true, words.bits(), may_flow)
        words.tick(i, v, link)
        self.history.append(words.switch)
        self.calls += [tick(i, link, v), state()] + [cell(k) for k in range(m["cells"])]
        self.note_wanted()
        if self.honest:
            self.check_truth(before, link, v)

    def usable(self, i):
        """Whether it's closed, asked for, and no more is measured than was told, both ways."""
        words = self.words
        if words.switch != CLOSED or not words.asked or not (words.may_ask(0) and words.may_put(0)):
            return False
        if abs(i) > self.m["fuse"]:
            return False
        return words.may_ask(i) if i >= 0 else words.may_put(-i)

    def note_wanted(self):
        words = self.words
        filling = words.filling if words.switch == FILLING else 0
        self.wanted.append((words.switch, words.bits(), self.most(words.may_ask), self.most(words.may_put)))
        self.wanted.append([2, 0, 4, words.switch, int(words.asked), words.bits(), filling])
        self.wanted += [[1, first, second] for first, second in words.pairs]

    def most(self, holds):
        """The greatest current, found by what fails just above it."""
        if self.words.switch != CLOSED:
            return 0
        if not holds(0):
            return NONE
        low, high = 0, self.m["fuse"]
        while low < high:
            middle = (low + high + 1) // 2
            low, high = (middle, high) if holds(middle) else (low, middle - 1)
        return low

    def check_truth(self, before, link, v):
        words, test = self.words, self.test
        switch, filling, usable = before
        charges = self.battery.charges
        test.assertTrue(all(0 <= charge <= FULL for charge in charges))
        if words.switch == BROKEN:
            late = filling + 1 == self.m["fill"] and 16 * link < 15 * sum(v)
            test.assertTrue(switch == BROKEN or (switch == FILLING and late))
        else:
            test.assertTrue(all(first <= z <= second for z, (first, second) in zip(charges, words.pairs)))
        for k in words.bled:
            test.assertGreater(charges[k], min(charges))
        if usable:
            test.assertEqual(words.switch, CLOSED)
        if not words.asked:
            test.assertIn(words.switch, (OPEN, BROKEN))

    def compare(self):
        for answer, want in zip(told(*self.calls), self.wanted, strict=True):
            if isinstance(want, tuple):
                want = [2, want[0], 4] + list(want)
            self.test.assertEqual(answer, want)


class Whole(unittest.TestCase):
    def go_through(self, seeds, honest, count):
        states = {}
        for seed in seeds:
            with self.subTest(seed=seed):
                run = Run(self, seed, honest).ticks(count)
                run.compare()
                for switch in run.history:
                    states[switch] = states.get(switch, 0) + 1
        return states

    def test_true_batteries(self):
        """The words hold what they promise, and the program is as the words."""
        states = self.go_through(range(150), True, 40)
        self.assertTrue(all(states[switch] > 100 for switch in (OPEN, FILLING, CLOSED, BROKEN)), states)

    def test_batteries_and_measuring_not_as_told(self):
        states = self.go_through(range(1000, 1150), False, 40)
        self.assertTrue(all(states[switch] > 100 for switch in (OPEN, FILLING, CLOSED, BROKEN)), states)


if __name__ == "__main__":
    unittest.main()
