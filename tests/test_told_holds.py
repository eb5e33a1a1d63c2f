import unittest

from tests.helper import ENDS, PAGE, begin, give, holds, last, only, resize, run, take, told


class ToldTest(unittest.TestCase):
    def test_size_and_room(self):
        for n, room in (
            (0, 16), (1, 16), (16, 16), (17, 32), (129, 160), (1537, 1792), (32768, 32768), (32769, 36864),
            (50000, 53248),
        ):
            self.assertEqual(last(begin(99, 1, 0), take(n, 4, [3]), told(3 * PAGE)), ([], [n, room]))

    def test_room_at_a_multiple(self):
        self.assertEqual(only(begin(99, 1, 0), take(9, 9), told(0)), [9, 512])

    def test_behind_a_resize(self):
        self.assertEqual(only(begin(99, 1, 0), take(20), resize(0, 30), told(0)), [30, 32])
        self.assertEqual(only(begin(99, 1, 0), take(20 * PAGE), resize(0, 40000), told(0)), [40000, 40960])

    def test_no_block_begins_there(self):
        start = [begin(99, 20, 0), take(20), take(20), take(40000), give(32)]
        for p in (1, 16, 31, 32, 64, PAGE - 1, PAGE + 1, 2 * PAGE, 11 * PAGE, 99 * PAGE, *ENDS):
            self.assertEqual(last(*start, told(p)), ([], [-5]))


class HoldsTest(unittest.TestCase):
    start = [begin(99, 1, 0), take(20), take(32), take(40000, 4, [1])]

    def test_the_bytes_of_its_size(self):
        for at, place in (
            (0, 0), (1, 0), (19, 0), (32, 32), (63, 32), (PAGE, PAGE), (PAGE + 1, PAGE), (PAGE + 39999, PAGE),
            (3 * PAGE, PAGE),
        ):
            self.assertEqual(last(*self.start, holds(at)), ([], [place]))

    def test_none_has_the_byte(self):
        # In a block's room behind its size, in a free place, in a free page, outside.
        for at in (20, 31, 64, PAGE - 1, PAGE + 40000, 11 * PAGE - 1, 11 * PAGE, 98 * PAGE, 99 * PAGE, *ENDS):
            self.assertEqual(last(*self.start, holds(at)), ([], [-5]))

    def test_a_block_of_no_bytes(self):
        answered = run(begin(9, 1, 0), take(0), take(0), told(0), holds(0), holds(15), holds(16), give(16), give(0))
        self.assertEqual([answer for asks, answer in answered[1:]], [
            [0], [16], [0, 16], [-5], [-5], [-5], [0], [0],
        ])

    def test_behind_a_resize(self):
        start = [begin(99, 1, 0), take(20)]
        self.assertEqual(only(*start, resize(0, 30), holds(29)), [0])
        self.assertEqual(only(*start, resize(0, 18), holds(18)), [-5])
        self.assertEqual(only(*start, resize(0, 18), holds(17)), [0])
        self.assertEqual(only(*start, resize(0, 40, [9]), holds(5)), [-5])
        self.assertEqual(only(*start, resize(0, 40, [9]), holds(9 * PAGE + 39)), [9 * PAGE])

    def test_behind_a_give(self):
        self.assertEqual(only(*self.start, give(0), holds(5)), [-5])


if __name__ == "__main__":
    unittest.main()
