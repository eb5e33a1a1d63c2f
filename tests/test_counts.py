import unittest

from tests.helper import PAGE, begin, counts, give, last, resize, take, trim

SIZES = [
    16, 32, 48, 64, 80, 96, 112, 128, 160, 192, 224, 256, 320, 384, 448, 512, 640, 768, 896, 1024,
    1280, 1536, 1792, 2048, 2560, 3072, 3584, 4096, 5120, 6144, 7168, 8192,
    10240, 12288, 14336, 16384, 20480, 24576, 28672, 32768,
]
# Those of which a run has one place.
ALONE = [3584, 4096, 7168, 8192, 12288, 14336, 16384, 20480, 24576, 28672, 32768]


class CountsTest(unittest.TestCase):
    def check(self, calls, sizes, great):
        """sizes: runs and blocks of those sizes that have a run."""
        asks, answer = last(*calls, counts())
        self.assertEqual((asks, len(answer), answer[0], answer[-1]), ([], 82, 0, great))
        pairs = zip(SIZES, answer[1:-1:2], answer[2:-1:2])
        self.assertEqual({z: (runs, blocks) for z, runs, blocks in pairs if runs or blocks}, sizes)

    def test_nothing(self):
        self.check([begin(9, 1, 0)], {}, 0)

    def test_each_size_by_itself(self):
        self.assertEqual(len(SIZES), 40)
        for z in SIZES:
            runs = 2 if z in ALONE else 1
            self.check([begin(99, 1, 0), take(z), take(z, 4, [50])], {z: (runs, 2)}, 0)

    def test_all_sizes_at_once(self):
        calls = [begin(999, 1, 0), *[take(z, 4, [10 * k]) for k, z in enumerate(SIZES)]]
        self.check(calls, {z: (1, 1) for z in SIZES}, 0)

    def test_great_ones(self):
        calls = [begin(999, 1, 0), take(32768), take(32769, 4, [100]), take(999999, 4, [200])]
        self.check(calls, {32768: (1, 1)}, 2)
        self.check([*calls, give(100 * PAGE)], {32768: (1, 1)}, 1)

    def test_blocks_of_a_greater_size_for_their_multiple(self):
        self.check([begin(99, 1, 0), take(1, 9), take(0, 4, [5]), take(500)], {16: (1, 1), 512: (1, 2)}, 0)

    def test_several_runs_of_a_size(self):
        calls = [begin(99, 1, 0), *[take(2048, 4, [k // 2]) for k in range(5)]]
        self.check(calls, {2048: (3, 5)}, 0)
        # The third run has a free place: the others are given up as they are left.
        self.check([*calls, give(0)], {2048: (3, 4)}, 0)
        self.check([*calls, give(0), give(2048)], {2048: (2, 3)}, 0)

    def test_a_run_that_is_kept_without_a_block(self):
        calls = [begin(99, 1, 0), take(16), give(0)]
        self.check(calls, {16: (1, 0)}, 0)
        self.check([*calls, trim()], {}, 0)

    def test_resize(self):
        calls = [begin(99, 1, 0), take(20), take(20)]
        self.check([*calls, resize(0, 32)], {32: (1, 2)}, 0)
        self.check([*calls, resize(0, 33, [9])], {32: (1, 1), 48: (1, 1)}, 0)
        self.check([*calls, resize(0, 33, [9]), resize(32, 33)], {32: (1, 0), 48: (1, 2)}, 0)
        self.check([*calls, resize(0, 40000, [9])], {32: (1, 1)}, 1)
        self.check([*calls, resize(0, 40000, [9]), resize(9 * PAGE, 50000, [30])], {32: (1, 1)}, 1)
        self.check([*calls, resize(0, 40000, [9]), resize(9 * PAGE, 9, [30])], {32: (1, 1), 16: (1, 1)}, 0)
        self.check([*calls, resize(0, 40000, [-1])], {32: (1, 2)}, 0)

    def test_trim(self):
        calls = [begin(99, 1, 0), take(16), take(32, 4, [1]), take(48, 4, [2]), give(0), give(2 * PAGE)]
        self.check(calls, {16: (1, 0), 32: (1, 1), 48: (1, 0)}, 0)
        self.check([*calls, trim()], {32: (1, 1)}, 0)

    def test_begin(self):
        self.check([begin(99, 1, 0), take(16), take(40000, 4, [1]), begin(99, 1, 0)], {}, 0)


if __name__ == "__main__":
    unittest.main()
