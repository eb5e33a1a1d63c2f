import unittest

from tests.helper import ENDS, HIGHEST, LOWEST, PAGE, begin, copy, flat, get, last, only, put, run, take

ROW = [k % 255 + 1 for k in range(4096)]


class SmallTest(unittest.TestCase):
    start = [begin(99, 1, 0), take(20), take(32), put(0, list(range(1, 21))), put(32, list(range(101, 133)))]

    def copied(self, origin, to, n):
        """What the copy answers, and the bytes of the two blocks behind it."""
        answered = run(*self.start, copy(origin, to, n), get(0, 20), get(32, 32))[5:]
        self.assertEqual([asks for asks, answer in answered], [[], [], []])
        answer, first, second = [answer for asks, answer in answered]
        return answer, first[1:], second[1:]

    def expected(self, origin, to, n):
        before = list(range(1, 21)) + [0] * 12 + list(range(101, 133))
        behind = list(before)
        behind[to:to + n] = before[origin:origin + n]
        return [0], behind[:20], behind[32:]

    def test_within_one_block_apart(self):
        for origin, to, n in ((0, 10, 10), (10, 0, 10), (0, 19, 1), (3, 12, 5), (12, 3, 5), (32, 48, 16)):
            self.assertEqual(self.copied(origin, to, n), self.expected(origin, to, n))
        self.assertEqual(self.copied(0, 10, 10)[1], list(range(1, 11)) * 2)

    def test_within_one_block_overlapping(self):
        for origin, to, n in ((0, 1, 19), (1, 0, 19), (0, 5, 15), (5, 0, 15), (4, 6, 9), (6, 4, 9), (32, 33, 31)):
            self.assertEqual(self.copied(origin, to, n), self.expected(origin, to, n))
        self.assertEqual(self.copied(0, 1, 19)[1], [1] + list(range(1, 20)))
        self.assertEqual(self.copied(1, 0, 19)[1], list(range(2, 21)) + [20])

    def test_upon_itself(self):
        for origin, n in ((0, 20), (3, 5), (32, 32)):
            self.assertEqual(self.copied(origin, origin, n), self.expected(origin, origin, n))

    def test_between_two_blocks(self):
        for origin, to, n in ((0, 32, 20), (32, 0, 20), (44, 0, 20), (19, 63, 1), (5, 40, 7)):
            self.assertEqual(self.copied(origin, to, n), self.expected(origin, to, n))
        self.assertEqual(self.copied(0, 32, 20)[2], list(range(1, 21)) + list(range(121, 133)))

    def test_no_bytes(self):
        for origin, to in ((0, 32), (0, 0), (5, 20), (20, 5), (64, 64), (50 * PAGE, 0), (0, 50 * PAGE)):
            self.assertEqual(self.copied(origin, to, 0), self.expected(0, 0, 0))
        for end in ENDS:
            self.assertEqual(self.copied(end, end, 0), self.expected(0, 0, 0))

    def test_not_all_of_one_block(self):
        # The first five miss with origin, the next five with to, the others with both.
        for origin, to, n in (
            (0, 32, 21), (20, 32, 1), (-1, 32, 1), (19, 32, 2), (64, 32, 1), (32, 0, 21), (32, 20, 1), (32, -1, 1),
            (32, 19, 2), (32, 64, 1), (0, 0, 21), (20, 20, 1), (31, 64, 1), (0, 32, 33), (0, 0, 2 ** 20),
        ):
            self.assertEqual(self.copied(origin, to, n), ([-5], *self.expected(0, 0, 0)[1:]))
        for end in ENDS:
            self.assertEqual(self.copied(end, 0, 1)[0], [-5])
            self.assertEqual(self.copied(0, end, 1)[0], [-5])
            self.assertEqual(self.copied(end, end, 2 ** 20)[0], [-5])

    def test_two_blocks_that_touch_are_not_one(self):
        start = [begin(9, 1, 0), take(16), take(16), take(64, 4, [1])]
        self.assertEqual(only(*start, copy(8, PAGE, 8)), [0])
        self.assertEqual(only(*start, copy(8, PAGE, 9)), [-5])
        self.assertEqual(only(*start, copy(PAGE, 8, 9)), [-5])

    def test_a_block_of_no_bytes(self):
        start = [begin(9, 1, 0), take(0), take(5)]
        self.assertEqual([only(*start, copy(0, 16, 1)), only(*start, copy(16, 0, 1))], [[-5], [-5]])

    def test_out_of_range_before_all_else(self):
        for n in (-1, 2 ** 20 + 1, LOWEST, HIGHEST):
            for origin, to in ((0, 32), (0, 50 * PAGE), (50 * PAGE, 0), (LOWEST, HIGHEST)):
                self.assertEqual(self.copied(origin, to, n), ([-8], *self.expected(0, 0, 0)[1:]))

    def test_the_copy_stays_apart(self):
        calls = [*self.start, copy(0, 32, 20), put(0, [99] * 20)]
        self.assertEqual(only(*calls, get(32, 20)), [0] + list(range(1, 21)))
        calls = [*self.start, copy(0, 32, 20), put(32, [99] * 20)]
        self.assertEqual(only(*calls, get(0, 20)), [0] + list(range(1, 21)))


class GreatTest(unittest.TestCase):
    # Two blocks of 2^20 bytes and ten pages more, one at page 0, one at page 1000.
    many = 2 ** 20 + 10 * PAGE
    other = 1000 * PAGE
    start = [begin(4000, 1, 0), take(many), take(many, 4, [1000])]

    def test_2_20_bytes_between_two_blocks(self):
        rows = [put(0, ROW), put(2 ** 20 - 4096, ROW), put(self.other, [9] * 4096), put(self.other + 2 ** 19, [9])]
        for ahead in (0, PAGE, 1, 4095, 5000):
            calls = [*self.start, *rows, copy(0, self.other + ahead, 2 ** 20)]
            self.assertEqual(last(*calls), ([], [0]))
            self.assertEqual(only(*calls, get(self.other + ahead, 4096)), [0] + ROW)
            self.assertEqual(only(*calls, get(self.other + ahead + 2 ** 20 - 4096, 4096)), [0] + ROW)
            # What is 0 is copied as well, and what is ahead of the stretch and behind it stays.
            self.assertEqual(only(*calls, get(self.other + 2 ** 19, 1)), [0, 0])
            left = min(ahead, 4096)
            self.assertEqual(only(*calls, get(self.other, left)), [0] + [9] * left)
            self.assertEqual(only(*calls, get(self.other + ahead + 2 ** 20, 4096)), [0] + [0] * 4096)

    def test_2_20_bytes_within_one_block(self):
        for origin, to in ((0, 3), (3, 0), (0, PAGE), (PAGE, 0), (0, 9 * PAGE + 5), (9 * PAGE + 5, 0)):
            calls = [*self.start, put(origin, ROW), put(origin + 2 ** 20 - 4096, ROW), copy(origin, to, 2 ** 20)]
            self.assertEqual(last(*calls), ([], [0]))
            self.assertEqual(only(*calls, get(to, 4096)), [0] + ROW)
            self.assertEqual(only(*calls, get(to + 2 ** 20 - 4096, 4096)), [0] + ROW)

    def test_2_20_bytes_at_the_end(self):
        end = self.other + self.many
        calls = [*self.start, put(2 ** 20 - 1, [5]), copy(0, end - 2 ** 20, 2 ** 20), get(end - 2, 2)]
        self.assertEqual(only(*calls), [0, 0, 5])
        self.assertEqual(only(*self.start, copy(0, end - 2 ** 20 + 1, 2 ** 20)), [-5])
        self.assertEqual(only(*self.start, copy(end - 2 ** 20 + 1, 0, 2 ** 20)), [-5])

    def test_every_byte_of_a_stretch_across_pages(self):
        for origin, to, n in (
            (0, 3000, 9000), (3000, 0, 9000), (100, 4196, 9000), (4196, 100, 9000), (0, 20000, 9000), (1, 12288, 8192),
        ):
            before = [(k * 7 + k // 4096) % 251 for k in range(12288)] + [0] * 20000
            behind = list(before)
            behind[to:to + n] = before[origin:origin + n]
            puts = [put(at, before[at:at + 4096]) for at in range(0, 12288, 4096)]
            gets = [get(at, 4096) for at in range(0, 32000, 4096)]
            answered = run(*self.start, *puts, copy(origin, to, n), *gets)
            found = flat([answer[1:] for asks, answer in answered[-len(gets):]])
            self.assertEqual(found[:32000], behind[:32000])

    def test_bytes_that_are_0_are_copied_too(self):
        calls = [*self.start, put(0, ROW), copy(2000, 0, 1000), copy(50000, 1500, 1000)]
        self.assertEqual(only(*calls, get(0, 1500)), [0] + ROW[2000:3000] + ROW[1000:1500])
        self.assertEqual(only(*calls, get(1500, 2596)), [0] + [0] * 1000 + ROW[2500:])

    def test_the_copy_of_whole_pages_stays_apart(self):
        calls = [*self.start, put(0, ROW), copy(0, self.other, 4096), put(1, [77])]
        self.assertEqual(only(*calls, get(self.other, 4096)), [0] + ROW)
        calls = [*self.start, put(0, ROW), copy(0, self.other, 4096), put(self.other + 1, [77])]
        self.assertEqual(only(*calls, get(0, 4096)), [0] + ROW)


if __name__ == "__main__":
    unittest.main()
