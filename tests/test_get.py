import unittest

from tests.helper import ENDS, HIGHEST, LOWEST, PAGE, begin, copy, get, give, last, only, put, resize, run, take

ROW = [k % 255 + 1 for k in range(4096)]


class GetTest(unittest.TestCase):
    start = [begin(99, 1, 0), take(20), take(32), take(40000, 4, [1]), take(0, 4, [90])]

    def test_all_0_behind_take(self):
        for at, n in ((0, 20), (5, 1), (19, 1), (32, 32), (PAGE, 4096), (PAGE + 35904, 4096), (PAGE + 39999, 1)):
            self.assertEqual(last(*self.start, get(at, n)), ([], [0] + [0] * n))

    def test_what_was_put(self):
        calls = [*self.start, put(3, [0, 1, 254, 255]), put(5, [9])]
        self.assertEqual(last(*calls, get(0, 20)), ([], [0, 0, 0, 0, 0, 1, 9, 255] + [0] * 13))
        self.assertEqual(last(*calls, get(4, 3)), ([], [0, 1, 9, 255]))
        self.assertEqual(last(*calls, get(4, 1)), ([], [0, 1]))
        self.assertEqual(last(*calls, get(32, 32)), ([], [0] + [0] * 32))

    def test_4096_bytes(self):
        for at in (PAGE, 3 * PAGE, 3 * PAGE + 1, 3 * PAGE - 1, 2 * PAGE + 2000, PAGE + 35904):
            calls = [*self.start, put(at, ROW)]
            self.assertEqual(last(*calls, get(at, 4096)), ([], [0] + ROW))
            if at > PAGE:
                self.assertEqual(only(*calls, get(at - 1, 4096)), [0, 0] + ROW[:-1])
            if at < PAGE + 35904:
                self.assertEqual(only(*calls, get(at + 1, 4096)), [0] + ROW[1:] + [0])

    def test_no_bytes(self):
        for at in (0, 5, 20, 31, 64, PAGE, 50 * PAGE, 90 * PAGE, 99 * PAGE, *ENDS):
            self.assertEqual(last(*self.start, get(at, 0)), ([], [0]))

    def test_not_all_of_one_block(self):
        for at, n in (
            (0, 21), (19, 2), (7, 14), (32, 33), (63, 2), (PAGE + 35905, 4096), (PAGE + 39999, 2), (20, 1), (31, 2),
            (PAGE + 40000, 1), (PAGE - 1, 2), (0, 64), (0, 4096), (90 * PAGE, 1), (50 * PAGE, 1), (64, 1), (-1, 1),
            (-1, 2),
        ):
            self.assertEqual(last(*self.start, get(at, n)), ([], [-5]))
        for at in ENDS:
            self.assertEqual(last(*self.start, get(at, 1)), ([], [-5]))
            self.assertEqual(last(*self.start, get(at, 4096)), ([], [-5]))

    def test_two_blocks_that_touch_are_not_one(self):
        start = [begin(9, 1, 0), take(16), take(16)]
        self.assertEqual(only(*start, get(8, 8)), [0] + [0] * 8)
        self.assertEqual(only(*start, get(8, 9)), [-5])

    def test_out_of_range_before_all_else(self):
        for n in (-1, 4097, LOWEST, HIGHEST):
            for at in (0, PAGE, 50 * PAGE, *ENDS):
                self.assertEqual(last(*self.start, get(at, n)), ([], [-8]))

    def test_behind_give(self):
        calls = [*self.start, put(0, [7] * 20), give(0)]
        self.assertEqual(last(*calls, get(0, 1)), ([], [-5]))
        self.assertEqual(last(*calls, take(30), get(0, 30)), ([], [0] + [0] * 30))

    def test_a_great_one_s_pages_taken_again(self):
        calls = [begin(99, 20, 99), take(40000), put(0, ROW), put(36000, [8] * 4000), give(0)]
        self.assertEqual(run(*calls, take(16), get(0, 16))[-2:], [([], [0]), ([], [0] + [0] * 16)])
        self.assertEqual(only(*calls, take(40000), get(0, 4096)), [0] + [0] * 4096)
        self.assertEqual(only(*calls, take(40000), get(36000, 4000)), [0] + [0] * 4000)

    def test_pages_given_back_and_asked_for_again(self):
        calls = [begin(99, 1, 0), take(40000), put(0, ROW), give(0), take(40000), get(0, 4096)]
        self.assertEqual(only(*calls), [0] + [0] * 4096)

    def test_behind_a_refused_put(self):
        self.assertEqual(only(*self.start, put(10, [1] * 11), get(0, 20)), [0] + [0] * 20)

    def test_behind_begin(self):
        calls = [*self.start, put(0, [7] * 20), begin(99, 1, 0)]
        self.assertEqual(only(*calls, get(0, 1)), [-5])
        self.assertEqual(only(*calls, take(20), get(0, 20)), [0] + [0] * 20)


class ResizeTest(unittest.TestCase):
    small = [begin(400, 1, 0), take(20), put(0, list(range(1, 21)))]

    def test_a_small_one_at_its_place(self):
        self.assertEqual(only(*self.small, resize(0, 32), get(0, 32)), [0] + list(range(1, 21)) + [0] * 12)
        self.assertEqual(only(*self.small, resize(0, 17), get(0, 17)), [0] + list(range(1, 18)))
        self.assertEqual(only(*self.small, resize(0, 17), get(0, 18)), [-5])
        self.assertEqual(
            only(*self.small, resize(0, 17), resize(0, 32), get(0, 32)), [0] + list(range(1, 18)) + [0] * 15,
        )

    def test_a_small_one_moved(self):
        for n in (1, 16, 33, 500, 4096, 5000, 32768, 32769, 100000):
            row = (list(range(1, 21)) + [0] * 4096)[:min(n, 4096)]
            calls = [*self.small, resize(0, n, [60])]
            self.assertEqual(only(*calls), [60 * PAGE])
            self.assertEqual(only(*calls, get(60 * PAGE, len(row))), [0] + row)
            self.assertEqual(only(*calls, get(0, 1)), [-5])
            self.assertEqual(only(*calls, take(20), get(0, 20)), [0] + [0] * 20)

    def test_a_great_one_at_its_place(self):
        calls = [begin(400, 40, 0), take(50000), put(46000, [7] * 4000), resize(0, 100000)]
        self.assertEqual(only(*calls), [0])
        self.assertEqual(only(*calls, get(45999, 4096)), [0, 0] + [7] * 4000 + [0] * 95)
        self.assertEqual(only(*calls, resize(0, 48000), get(46000, 2000)), [0] + [7] * 2000)
        self.assertEqual(only(*calls, resize(0, 48000), get(46000, 2001)), [-5])

    def test_a_great_one_shorter_and_longer_again(self):
        # Once to more pages that are free behind it, once within the same pages.
        for n, more_than in ((48000, 49000), (48000, 60000), (9 * PAGE, 50000), (33000, 36000)):
            calls = [begin(400, 40, 40), take(50000), put(32768, [7] * 4096), put(45904, [7] * 4096)]
            answered = run(*calls, resize(0, n), resize(0, more_than), get(n - 200, 400), get(45904, 2000))
            self.assertEqual([answer for asks, answer in answered[4:6]], [[0], [0]])
            known = [7 if 32768 <= at < 36864 or at >= 45904 else 0 for at in range(n)]
            self.assertEqual(answered[6][1], [0] + known[n - 200:] + [0] * 200)
            if more_than >= 47904:
                self.assertEqual(answered[7][1], [0] + (known + [0] * 9999 + [0] * 9999)[45904:47904])

    def test_a_great_one_moved(self):
        calls = [begin(400, 1, 0), take(50000), put(0, ROW), put(46000, [7] * 4000), resize(0, 100000, [60])]
        self.assertEqual(only(*calls), [60 * PAGE])
        self.assertEqual(only(*calls, get(60 * PAGE, 4096)), [0] + ROW)
        self.assertEqual(only(*calls, get(60 * PAGE + 46000, 4096)), [0] + [7] * 4000 + [0] * 96)
        self.assertEqual(only(*calls, get(46000, 1)), [-5])

    def test_from_great_to_small_and_back(self):
        calls = [
            begin(400, 1, 0), take(40000), put(0, ROW), resize(0, 100, [60]), resize(60 * PAGE, 40000, [90]),
            get(90 * PAGE, 4096),
        ]
        self.assertEqual(only(*calls), [0] + ROW[:100] + [0] * 3996)

    def test_a_refused_one_keeps_its_bytes(self):
        for n in (5, 33, 40000, 2 ** 30, -1):
            self.assertEqual(only(*self.small, resize(0, n, [-1]), get(0, 20)), [0] + list(range(1, 21)))

    def test_what_was_copied_moves_too(self):
        calls = [*self.small, copy(0, 10, 10), resize(0, 40, [60]), get(60 * PAGE, 40)]
        self.assertEqual(only(*calls), [0] + list(range(1, 11)) * 2 + [0] * 20)


if __name__ == "__main__":
    unittest.main()
