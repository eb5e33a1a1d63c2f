import unittest

from roomhouse.given import Given
from roomhouse.house import House
from roomhouse.refusals import NoBlock
from tests.helper import ENDS, PAGE, begin, give, last, put, resize, take


class PutTest(unittest.TestCase):
    start = [begin(99, 1, 0), take(20), take(32), take(40000, 4, [1]), take(0, 4, [90])]

    def test_no_bytes(self):
        for at in (0, 5, 20, 31, 64, PAGE, 50 * PAGE, 90 * PAGE, 99 * PAGE, *ENDS):
            self.assertEqual(last(*self.start, put(at, [])), ([], [0]))

    def test_within_one_block(self):
        for at, many in (
            (0, 1), (0, 20), (19, 1), (7, 13), (32, 32), (63, 1), (PAGE, 4096), (PAGE + 35904, 4096), (5 * PAGE - 9, 20),
        ):
            self.assertEqual(last(*self.start, put(at, [255] * many)), ([], [0]))

    def test_not_all_of_one_block(self):
        for at, many in (
            (0, 21), (19, 2), (7, 14), (32, 33), (63, 2), (PAGE + 35905, 4096), (PAGE + 39999, 2),
            (20, 1), (31, 2), (PAGE + 40000, 1), (PAGE - 1, 2), (0, 64), (0, 4096), (90 * PAGE, 1), (50 * PAGE, 1),
            (64, 1), (-1, 1), (-1, 2),
        ):
            self.assertEqual(last(*self.start, put(at, [1] * many)), ([], [-5]))
        for at in ENDS:
            self.assertEqual(last(*self.start, put(at, [1])), ([], [-5]))
            self.assertEqual(last(*self.start, put(at, [1] * 4096)), ([], [-5]))

    def test_two_blocks_that_touch_are_not_one(self):
        start = [begin(9, 1, 0), take(16), take(16)]
        self.assertEqual(last(*start, put(8, [1] * 8)), ([], [0]))
        self.assertEqual(last(*start, put(8, [1] * 9)), ([], [-5]))

    def test_behind_give_and_resize(self):
        self.assertEqual(last(*self.start, give(0), put(0, [1])), ([], [-5]))
        self.assertEqual(last(*self.start, resize(0, 32), put(0, [1] * 32)), ([], [0]))
        self.assertEqual(last(*self.start, resize(0, 17), put(0, [1] * 18)), ([], [-5]))

    def test_a_number_that_is_no_byte(self):
        for byte in (-1, 256):
            for at in (0, 50 * PAGE):
                self.assertEqual(last(*self.start, put(at, [1, byte])), ([], [-8]))

    def test_more_than_4096_bytes(self):
        self.assertEqual(last(*self.start, put(PAGE, [1] * 4097)), ([], [-8]))


class BytesTest(unittest.TestCase):
    """What stands in a block, asked of the house itself, whole and without get."""

    def setUp(self):
        self.house = House()
        self.house.begin(99, 40, 0, Given([]))
        self.small = self.house.take(20, 4, Given([]))
        self.other = self.house.take(20, 4, Given([]))
        self.great = self.house.take(40000, 4, Given([]))

    def bytes_of(self, place):
        block = self.house.held[place]
        return block.content.read(0, block.size)

    def test_they_stand_from_there_on(self):
        self.house.put(self.small + 3, [0, 1, 254, 255])
        self.assertEqual(self.bytes_of(self.small), [0, 0, 0, 0, 1, 254, 255] + [0] * 13)
        self.house.put(self.small + 5, [0, 9])
        self.assertEqual(self.bytes_of(self.small), [0, 0, 0, 0, 1, 0, 9] + [0] * 13)
        self.assertEqual(self.bytes_of(self.other), [0] * 20)

    def test_across_pages(self):
        row = [k % 255 + 1 for k in range(4096)]
        self.house.put(self.great + 10000, row)
        self.assertEqual(self.bytes_of(self.great), [0] * 10000 + row + [0] * 25904)

    def test_up_to_both_ends(self):
        row = [k % 255 + 1 for k in range(4096)]
        self.house.put(self.great, row)
        self.house.put(self.great + 35904, row)
        self.assertEqual(self.bytes_of(self.great), row + [0] * 31808 + row)

    def test_a_refused_one_puts_nothing(self):
        with self.assertRaises(NoBlock):
            self.house.put(self.small + 10, [1] * 11)
        self.assertEqual(self.bytes_of(self.small), [0] * 20)

    def test_the_row_that_was_handed_in_stays_apart(self):
        row = [5] * 4096
        self.house.put(self.great, row)
        self.house.put(self.great + 1, [6])
        self.assertEqual(row, [5] * 4096)
        row[0] = 7
        self.assertEqual(self.bytes_of(self.great)[:3], [5, 6, 5])


if __name__ == "__main__":
    unittest.main()
