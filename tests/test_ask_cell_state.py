"""Points 2 and 4: bm_ask, bm_cell, bm_state."""

import unittest

from helper import (BROKEN, CLOSED, FILLING, FULL, HALF, OPEN, PART, UNIT, ask, cell, done, last, pair, plain, start,
                    state, stated, tick, ticked, told)

MIDDLE = [HALF, HALF]


class Ask(unittest.TestCase):
    def test_on(self):
        for on, asked in ((0, 0), (1, 1), (2, 1), (2 ** 32, 1), (2 ** 62, 1), (2 ** 63 - 1, 1)):
            with self.subTest(on=on):
                self.assertEqual(told(start(plain()), ask(on), state())[1:], [done(), stated(OPEN, asked)])
                self.assertEqual(last(start(plain()), ask(on), tick(0, 0, MIDDLE)), ticked(asked))

    def test_no_more(self):
        self.assertEqual(told(start(plain()), ask(2 ** 40), ask(0), state(), tick(0, 0, MIDDLE))[2:],
                         [done(), stated(OPEN), ticked(OPEN)])

    def test_it_does_nothing_by_itself(self):
        calls = [start(plain()), ask(1), tick(0, 0, MIDDLE), tick(0, FULL, MIDDLE)]
        self.assertEqual(told(*calls, ask(0), state())[-2:], [done(), stated(CLOSED)])
        self.assertEqual(told(*calls, ask(0), ask(1), tick(0, 0, MIDDLE))[-1][1], CLOSED)

    def test_not_asked_for_it_is_open_behind_the_next_tick(self):
        for before in ([], [tick(0, 0, MIDDLE)], [tick(0, 0, MIDDLE), tick(0, FULL, MIDDLE)]):
            calls = [start(plain()), ask(1)] + before + [ask(0), tick(0, FULL, MIDDLE)]
            self.assertEqual(last(*calls), ticked(OPEN))


class Cell(unittest.TestCase):
    def test_each_that_is_there(self):
        voltages = [HALF + 1000 * k for k in range(16)]
        calls = [start(plain(cells=16, leak=1)), tick(0, 0, voltages)]
        for k in range(16):
            self.assertEqual(last(*calls, cell(k)), pair(voltages[k] - UNIT, voltages[k]))

    def test_none_such(self):
        for cells in (1, 2, 15, 16):
            calls = [start(plain(cells=cells))]
            self.assertEqual(last(*calls, cell(cells - 1)), pair(0, FULL))
            for k in (cells, cells + 1, 2 ** 32, 2 ** 63 - 1):
                self.assertEqual(last(*calls, cell(k)), done(-2))

    def test_asking_changes_nothing(self):
        calls = [start(plain()), ask(1), tick(0, 0, [HALF, HALF + PART])]
        more = [tick(5, FULL * 2, [HALF, HALF + PART]), state(), cell(1)]
        self.assertEqual(told(*calls, cell(0), cell(1), cell(2), state(), *more)[-3:], told(*calls, *more)[-3:])

    def test_broken_too(self):
        self.assertEqual(told(start(plain()), tick(1, 0, MIDDLE), cell(1), cell(2))[2:], [pair(0, FULL), done(-2)])


class State(unittest.TestCase):
    def test_open(self):
        self.assertEqual(last(start(plain()), state()), stated(OPEN))
        self.assertEqual(last(start(plain()), tick(0, 0, [HALF, HALF + PART]), state()), stated(OPEN, 0, 2))
        self.assertEqual(last(start(plain()), ask(9), tick(0, 0, [0, HALF]), state()), stated(OPEN, 1, 2))

    def test_filling(self):
        calls = [start(plain(fill=4)), ask(1), tick(0, 0, [HALF + PART, HALF])]
        for ticks in range(4):
            self.assertEqual(last(*calls, state()), stated(FILLING, 1, 1, ticks))
            calls.append(tick(0, 0, [HALF + PART, HALF]))

    def test_closed_has_not_been_filling(self):
        calls = [start(plain(fill=4)), ask(1), tick(0, 0, MIDDLE), tick(0, 0, MIDDLE), tick(0, FULL, MIDDLE)]
        self.assertEqual(last(*calls, state()), stated(CLOSED, 1))

    def test_open_again_it_has_not_been_filling(self):
        calls = [start(plain(fill=4)), ask(1), tick(0, 0, MIDDLE), tick(0, 0, MIDDLE), ask(0), tick(0, 0, MIDDLE)]
        self.assertEqual(last(*calls, state()), stated(OPEN))

    def test_broken(self):
        calls = [start(plain(fill=2)), ask(1), tick(0, 0, [HALF + PART, HALF])]
        calls += [tick(0, 0, [HALF + PART, HALF])] * 2
        self.assertEqual(last(*calls, state()), stated(BROKEN, 1))
        self.assertEqual(last(*calls, ask(0), state()), stated(BROKEN))


if __name__ == "__main__":
    unittest.main()
