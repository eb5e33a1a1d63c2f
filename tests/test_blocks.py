import unittest

from tests.helper import HIGHEST, LOWEST, PAGE, begin, blocks, flat, give, last, only, resize, take, trim


class BlocksTest(unittest.TestCase):
    # Small ones at pages 5 and 50, a great one between them and one ahead, taken in another order.
    start = [
        begin(99, 1, 0), take(16, 4, [50]), take(40000, 4, [20]), take(100, 4, [5]), take(7), take(0), take(99),
        take(50000, 12, [30]),
    ]
    pairs = [
        (5 * PAGE, 100), (5 * PAGE + 112, 99), (20 * PAGE, 40000), (30 * PAGE, 50000),
        (50 * PAGE, 16), (50 * PAGE + 16, 7), (50 * PAGE + 32, 0),
    ]

    def test_all_of_them(self):
        for most in (7, 8, 1023, 1024):
            self.assertEqual(last(*self.start, blocks(0, most)), ([], [7] + flat(self.pairs)))

    def test_some_of_them(self):
        for start in range(9):
            for most in range(9):
                asked = flat(self.pairs[start:start + most])
                self.assertEqual(last(*self.start, blocks(start, most)), ([], [7] + asked))

    def test_beyond_the_last(self):
        for start in (7, 8, 1024, 1025, HIGHEST - 1024, HIGHEST - 1, HIGHEST):
            for most in (0, 1, 1024):
                self.assertEqual(last(*self.start, blocks(start, most)), ([], [7]))

    def test_no_blocks(self):
        for calls in ([begin(9, 1, 0)], [begin(9, 1, 0), take(5), give(0)], [*self.start, begin(9, 1, 0)]):
            for start, most in ((0, 0), (0, 1024), (1, 1)):
                self.assertEqual(last(*calls, blocks(start, most)), ([], [0]))

    def test_out_of_range(self):
        for start, most in (
            (-1, 1), (0, -1), (0, 1025), (-1, -1), (9, 1025), (LOWEST, 0), (0, LOWEST), (0, HIGHEST), (LOWEST, HIGHEST),
        ):
            self.assertEqual(last(*self.start, blocks(start, most)), ([], [-8]))

    def test_behind_give_and_resize(self):
        calls = [begin(99, 1, 0), take(20), take(20), take(20)]
        self.assertEqual(only(*calls, give(32), blocks(0, 9)), [2, 0, 20, 64, 20])
        self.assertEqual(only(*calls, resize(32, 31), blocks(0, 9)), [3, 0, 20, 32, 31, 64, 20])
        self.assertEqual(only(*calls, resize(0, 33, [8]), blocks(0, 9)), [3, 32, 20, 64, 20, 8 * PAGE, 33])
        self.assertEqual(only(*calls, resize(0, 33, [-1]), blocks(0, 9)), [3, 0, 20, 32, 20, 64, 20])
        self.assertEqual(only(*calls, give(32), trim(), blocks(0, 9)), [2, 0, 20, 64, 20])

    def test_as_many_as_a_list_can_take(self):
        calls = [begin(9, 1, 0), *[take(16)] * 98]
        every = flat([(16 * k, 16) for k in range(98)])
        self.assertEqual(only(*calls, blocks(0, 1024)), [98] + every)
        self.assertEqual(only(*calls, blocks(40, 50)), [98] + every[80:180])
        self.assertEqual(only(*calls, blocks(97, 1024)), [98] + every[-2:])


if __name__ == "__main__":
    unittest.main()
