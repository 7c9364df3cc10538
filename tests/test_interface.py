"""The interface: how calls and answers stand in their lists, and what is kept."""

import unittest

from batterykeeper.keeper import answers
from helper import CLOSED, FULL, HALF, PART, ask, cell, plain, rough, start, state, tick

MIDDLE = [HALF, HALF]


def joined(*calls):
    return [number for call in calls for number in call]


class Lists(unittest.TestCase):
    def test_one_call(self):
        self.assertEqual(answers(start(plain())), [2, 0, 0])
        self.assertEqual(answers(start(plain(cells=0))), [2, 0, -22])

    def test_the_numbers_as_they_stand(self):
        """Each call and each answer written out, so that no helper of the tests has a say."""
        curve = [k * 2 ** 27 for k in range(33)]
        voltages = [2 ** 31, 2 ** 31 + 2 ** 27] + [0] * 14
        calls = [0, 2, 1, 9, 0, 65536, 65537, 1, 2, 3, 4, 5, 6, 7, 0, 8, 9, 10, 2 ** 32, 33] + curve
        calls += [1, 5]
        calls += [2, -6, 11, 16] + voltages
        calls += [3, 0, 3, 1, 3, 2, 4]
        calls += [2, 0, 2 ** 33, 16] + voltages
        # A voltage is off by 17 and by a current of up to 7 times a resistance of up to 2.
        low, high = 2 ** 31 - 17 - 14, 2 ** 31 + 17
        fall, rise = 3 * 2 ** 16, -(-7 * 2 ** 32 // 65536)
        first = [low - fall, high + rise]
        second = [low + 2 ** 27 - fall, high + 2 ** 27 + rise]
        wanted = [2, 0, 0, 2, 0, 0, 7, 2, 1, 4, 1, 2, 0, 0]
        wanted += [3, 1] + first + [3, 1] + second + [2, 0, -2, 7, 2, 0, 4, 1, 1, 2, 0]
        wanted += [7, 2, 2, 4, 2, 2, 7, 7]
        self.assertEqual(answers(calls), wanted)

    def test_each_number_of_a_make_in_its_place(self):
        """Those that tell in a few ticks, each changed alone: what is told is then another."""
        make = rough(cells=2, wait=2, fill=2)
        voltages = [HALF, HALF + PART]
        calls = [ask(1), tick(0, 0, voltages), tick(500, 0, voltages), cell(0), cell(1),
                 tick(-20, 2 ** 33, [2131100000, 2265100000]), cell(0), cell(1), cell(2)]
        plainly = answers(joined(start(make), *calls))
        self.assertEqual(plainly[30:34], [7, 2, CLOSED, 4])
        for name, other in (("cells", 1), ("fill", 1), ("weak", 2 ** 16), ("strong", 2 ** 18), ("least", 3),
                            ("most", 95), ("leak", 1), ("bleedLow", 4), ("bleedHigh", 20), ("off", 8), ("fuse", 450),
                            ("near", 49999), ("like", 39999), ("low", HALF), ("high", HALF)):
            with self.subTest(name=name):
                changed = dict(make)
                changed[name] = other
                self.assertNotEqual(answers(joined(start(changed), *calls)), plainly)

    def test_whole_numbers_alone(self):
        calls = joined(start(plain()), ask(1), tick(0, 0, [HALF, HALF + PART]), state(), cell(0), cell(5),
                       tick(0, 2 * FULL, [HALF, HALF + PART]), state(), tick(0, 0, [-1, 0]), start(plain(wait=0)))
        for number in answers(calls):
            self.assertIs(type(number), int)
        self.assertIs(type(answers(calls)), list)


class NothingKept(unittest.TestCase):
    def setUp(self):
        self.calls = joined(start(plain()), ask(1), tick(0, 0, MIDDLE), tick(0, FULL, MIDDLE), tick(99, 0, MIDDLE),
                            cell(0), state(), start(plain(cells=0)), state())

    def test_what_is_handed_in_stays_the_same(self):
        before = list(self.calls)
        answers(self.calls)
        self.assertEqual(self.calls, before)

    def test_the_same_list_twice(self):
        first = answers(self.calls)
        other = answers(joined(start(plain(cells=16)), tick(1, 0, [0] * 16), state()))
        second = answers(self.calls)
        self.assertEqual(first, second)
        self.assertNotEqual(first, other)

    def test_answers_are_not_shared(self):
        first = answers(self.calls)
        kept = list(first)
        second = answers(self.calls)
        second.clear()
        self.assertEqual(first, kept)


class LongLists(unittest.TestCase):
    def test_three_thousand_calls(self):
        self.assertEqual(answers(joined(start(plain()), *[state()] * 2999)), [2, 0, 0] + [7, 2, 0, 4, 0, 0, 0, 0] * 2999)
        self.assertEqual(answers(joined(start(plain()), *[ask(1)] * 2999)), [2, 0, 0] * 3000)

    def test_sixteen_thousand_numbers_of_ticks(self):
        make = rough(cells=16, wait=16, fuse=2 ** 18, most=90, weak=2 ** 25, strong=2 ** 26)
        voltages = [HALF + 1000 * k for k in range(16)]
        calls = joined(start(make), ask(1), tick(0, 0, voltages), tick(0, 2 ** 40, voltages),
                       *[tick(0, 0, voltages)] * 794)
        self.assertLessEqual(len(calls), 16000)
        told = answers(calls)
        self.assertEqual(len(told), 6 + 796 * 8)
        self.assertEqual(told[-8:-4], [7, 2, 2, 4])

    def test_sixteen_thousand_numbers_of_starts(self):
        calls = start(plain()) * 301
        self.assertLessEqual(len(calls), 16000)
        self.assertEqual(answers(calls), [2, 0, 0] * 301)


if __name__ == "__main__":
    unittest.main()
