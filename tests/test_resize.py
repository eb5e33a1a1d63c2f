import unittest

from roomhouse.given import Given
from roomhouse.house import House
from roomhouse.refusals import NoPages
from tests.helper import ENDS, PAGE, begin, give, holds, last, less, more, resize, run, take, told


class SmallTest(unittest.TestCase):
    def test_the_same_size_the_same_place(self):
        start = [begin(99, 1, 0), take(20), take(20)]
        for n in (17, 20, 31, 32):
            answered = run(*start, resize(32, n), told(32))
            self.assertEqual(answered[3:], [([], [32]), ([], [n, 32])])

    def test_another_size_another_place(self):
        for n, room in ((0, 16), (1, 16), (16, 16), (33, 48), (4097, 5120), (32768, 32768), (32769, 36864)):
            answered = run(begin(99, 1, 0), take(20), take(20), resize(32, n, [50]), told(50 * PAGE), told(32))
            self.assertEqual(answered[3][1], [50 * PAGE])
            self.assertEqual(answered[4:], [([], [n, room]), ([], [-5])])

    def test_no_bytes_are_as_one(self):
        answered = run(begin(9, 1, 0), take(0), resize(0, 16), resize(0, 0), told(0), resize(0, 1), told(0))
        self.assertEqual([answer for asks, answer in answered[2:]], [[0], [0], [0, 16], [0], [1, 16]])

    def test_its_size_is_asked_at_multiples_of_16(self):
        # It lies in 4096 bytes for its multiple alone, and 16 are enough.
        answered = run(begin(9, 1, 0), take(5, 12), resize(0, 5, [3]), told(3 * PAGE))
        self.assertEqual(answered[2:], [([more(1)], [3 * PAGE]), ([], [5, 16])])
        self.assertEqual(last(begin(9, 1, 0), take(5, 12), resize(0, 3585)), ([], [0]))

    def test_the_lowest_free_place_of_the_other_size(self):
        answered = run(begin(9, 1, 0), take(16), take(16), take(32, 4, [1]), give(0), resize(PAGE, 16), resize(16, 30))
        self.assertEqual(answered[-2:], [([], [0]), ([], [PAGE])])

    def test_the_run_is_given_up_as_in_give(self):
        # Two runs of 4096 bytes; the first is free, so the second one goes.
        start = [begin(9, 1, 0), take(16, 4, [5]), take(4096), take(4096, 4, [1]), give(0)]
        self.assertEqual(last(*start, resize(PAGE, 9)), ([less(1, 1)], [5 * PAGE + 16]))
        # The only run is kept.
        self.assertEqual(last(begin(9, 1, 0), take(16, 4, [5]), take(4096), resize(0, 9)), ([], [5 * PAGE + 16]))


class GreatTest(unittest.TestCase):
    def test_the_same_number_of_pages(self):
        # Free pages beyond spare are there: no trimming comes of it.
        for n in (32769, 36863, 36864):
            answered = run(begin(99, 20, 0), take(36000), resize(0, n), told(0))
            self.assertEqual(answered[2:], [([], [0]), ([], [n, 36864])])

    def test_longer_where_the_pages_behind_are_free(self):
        for n, pages in ((36865, 10), (40000, 10), (20 * PAGE, 20)):
            answered = run(begin(99, 20, 0), take(36000), resize(0, n), told(0), take(16, 4, [50]))
            self.assertEqual(answered[2:4], [([], [0]), ([], [n, pages * PAGE])])
            self.assertEqual(answered[4], ([], [10 * PAGE]) if pages == 10 else ([more(20)], [50 * PAGE]))

    def test_shorter(self):
        for n, pages in ((36864, 9), (36865, 10), (19 * PAGE, 19)):
            answered = run(begin(99, 1, 0), take(20 * PAGE, 4, [3]), resize(3 * PAGE, n), told(3 * PAGE))
            self.assertEqual(answered[2:], [
                ([less(3 + pages, 20 - pages)], [3 * PAGE]), ([], [n, pages * PAGE]),
            ])

    def test_shorter_trims_to_spare(self):
        for spare, asks in ((5, [less(14, 6)]), (10, [less(19, 1)]), (11, []), (12, [])):
            answered = last(begin(99, 1, spare), take(20 * PAGE), resize(0, 36864))
            self.assertEqual(answered, (asks, [0]))

    def test_grow_refused_by_a_page_outside(self):
        answered = run(begin(99, 1, 0), take(36000), resize(0, 36865, [20]), told(20 * PAGE), told(0))
        self.assertEqual(answered[2:], [
            ([more(10), less(0, 9)], [20 * PAGE]), ([], [36865, 40960]), ([], [-5]),
        ])

    def test_grow_refused_by_a_taken_page(self):
        answered = run(begin(99, 12, 0), take(36000), take(16), resize(0, 12 * PAGE, [30]), told(30 * PAGE))
        self.assertEqual(answered[3:], [
            # Pages 10 and 11 were free besides the ones of the old run; all go, the highest row first.
            ([more(12), less(10, 2), less(0, 9)], [30 * PAGE]), ([], [12 * PAGE, 12 * PAGE]),
        ])

    def test_grow_refused_by_too_few_free_pages(self):
        answered = run(begin(99, 12, 3), take(36000), resize(0, 12 * PAGE), resize(0, 12 * PAGE + 1, [40]))
        self.assertEqual(answered[2:], [([], [0]), ([more(13), less(3, 9)], [40 * PAGE])])

    def test_new_pages_may_lie_right_behind(self):
        # Taken whole behind the old run, which is given up only then.
        answered = run(begin(99, 1, 0), take(36000), resize(0, 40000, [9]))
        self.assertEqual(answered[2], ([more(10), less(0, 9)], [9 * PAGE]))

    def test_to_the_end_of_the_house(self):
        self.assertEqual(last(begin(20, 20, 0), take(36000), resize(0, 20 * PAGE)), ([], [0]))
        self.assertEqual(last(begin(20, 20, 0), take(36000), resize(0, 20 * PAGE + 1)), ([more(21)], [-7]))


class BetweenTest(unittest.TestCase):
    def test_from_small_to_great(self):
        answered = run(begin(99, 1, 0), take(32768), resize(0, 32769, [20]), told(20 * PAGE), take(32768))
        # The run of the small size is the only one, so it is kept.
        self.assertEqual(answered[2:], [([more(9)], [20 * PAGE]), ([], [32769, 36864]), ([], [0])])

    def test_from_great_to_small(self):
        answered = run(begin(99, 1, 2), take(32769), resize(0, 32768, [20]), told(20 * PAGE))
        self.assertEqual(answered[2:], [([more(8), less(2, 7)], [20 * PAGE]), ([], [32768, 32768])])

    def test_asks_of_more_come_before_those_of_less(self):
        answered = run(begin(99, 12, 0), take(50000), resize(0, 16, [-1, 60, 5]))
        self.assertEqual(answered[2], ([more(12), more(1), less(0, 13)], [60 * PAGE]))


class RefusedTest(unittest.TestCase):
    start = [begin(99, 1, 0), take(20), take(40000, 4, [1])]

    def test_no_block_begins_there(self):
        for p in (1, 31, 32, 2 * PAGE, PAGE + 1, 98 * PAGE, *ENDS):
            self.assertEqual(last(*self.start, resize(p, 5)), ([], [-5]))

    def test_out_of_range_before_all_else(self):
        for n in (-1, 2 ** 30 + 1, *ENDS):
            for p in (0, PAGE, 5, *ENDS):
                self.assertEqual(last(*self.start, resize(p, n, [50])), ([], [-8]))

    def test_pages_refuses(self):
        for p, n, asks in ((0, 5, [more(1)]), (0, 32769, [more(9)]), (PAGE, 40961, [more(11)]), (PAGE, 9, [more(1)])):
            answered = run(*self.start, resize(p, n, [-1]), told(0), told(PAGE), holds(19), begin(9, 1, 0))
            self.assertEqual(answered[3:], [
                (asks, [-7]), ([], [20, 32]), ([], [40000, 40960]), ([], [0]), ([less(0, 11)], [0]),
            ])

    def test_more_pages_than_pages_takes_at_once(self):
        for p in (0, PAGE):
            for n in (16384 * PAGE + 1, 2 ** 30):
                self.assertEqual(run(*self.start, resize(p, n, [50]), told(p))[3], ([], [-7]))

    def test_as_many_as_pages_takes_at_once(self):
        for p in (0, PAGE):
            self.assertEqual(last(*self.start, resize(p, 16384 * PAGE)), ([more(16384)], [-7]))


class BytesTest(unittest.TestCase):
    """What stays in a block, asked of the house itself, whole and without get."""

    def house(self, size, chunk, row, at=0):
        house = House()
        house.begin(400, chunk, 0, Given([]))
        place = house.take(size, 4, Given([]))
        house.put(place + at, row)
        return house, place

    def bytes_of(self, house, place):
        block = house.held[place]
        return block.content.read(0, block.size)

    def test_at_the_same_place_a_small_one(self):
        house, place = self.house(20, 1, list(range(1, 21)))
        self.assertEqual(house.resize(place, 17, Given([])), place)
        self.assertEqual(self.bytes_of(house, place), list(range(1, 18)))
        self.assertEqual(house.resize(place, 32, Given([])), place)
        self.assertEqual(self.bytes_of(house, place), list(range(1, 18)) + [0] * 15)

    def test_at_another_place(self):
        for n in (0, 1, 16, 33, 500, 5000, 32768, 32769, 100000):
            house, place = self.house(20, 1, list(range(1, 21)))
            goal = house.resize(place, n, Given([60]))
            self.assertEqual(goal, 60 * PAGE)
            self.assertEqual(self.bytes_of(house, goal), list(range(1, min(n, 20) + 1)) + [0] * (n - 20))

    def test_a_great_one_longer_and_shorter(self):
        for chunk in (1, 40):
            house, place = self.house(50000, chunk, [7] * 4000, 46000)
            place = house.resize(place, 100000, Given([60]))
            self.assertEqual(place, 0 if chunk == 40 else 60 * PAGE)
            self.assertEqual(self.bytes_of(house, place), [0] * 46000 + [7] * 4000 + [0] * 50000)
            place = house.resize(place, 48000, Given([]))
            self.assertEqual(self.bytes_of(house, place), [0] * 46000 + [7] * 2000)
            place = house.resize(place, 50000, Given([200]))
            self.assertEqual(self.bytes_of(house, place), [0] * 46000 + [7] * 2000 + [0] * 2000)

    def test_shorter_at_the_end_of_a_page_and_longer_again(self):
        for n in (9 * PAGE, 9 * PAGE - 1, 9 * PAGE + 1):
            house, place = self.house(10 * PAGE, 40, [7] * 4096, 9 * PAGE - 2000)
            house.resize(place, n, Given([]))
            place = house.resize(place, 10 * PAGE, Given([100]))
            row = [0] * (9 * PAGE - 2000) + [7] * 4096 + [0] * PAGE
            self.assertEqual(self.bytes_of(house, place), (row[:n] + [0] * 2 * PAGE)[:10 * PAGE])

    def test_from_great_to_small_and_back(self):
        house, place = self.house(40000, 1, list(range(200)))
        place = house.resize(place, 100, Given([60]))
        self.assertEqual(self.bytes_of(house, place), list(range(100)))
        place = house.resize(place, 40000, Given([90]))
        self.assertEqual(self.bytes_of(house, place), list(range(100)) + [0] * 39900)

    def test_a_refused_one_keeps_its_bytes(self):
        for n in (5, 33, 40000, 2 ** 30):
            house, place = self.house(20, 1, list(range(1, 21)))
            with self.assertRaises(NoPages):
                house.resize(place, n, Given([-1]))
            self.assertEqual(self.bytes_of(house, place), list(range(1, 21)))

    def test_a_new_block_s_bytes_are_0(self):
        house, place = self.house(20, 1, list(range(1, 21)))
        house.give(place, Given([]))
        self.assertEqual(house.take(32, 4, Given([])), place)
        self.assertEqual(self.bytes_of(house, place), [0] * 32)

    def test_the_old_place_is_0_for_the_next_block(self):
        house, place = self.house(20, 1, list(range(1, 21)))
        goal = house.resize(place, 60, Given([9]))
        self.assertEqual(house.take(20, 4, Given([])), place)
        house.put(place, [99] * 20)
        self.assertEqual(self.bytes_of(house, goal)[:20], list(range(1, 21)))

    def test_the_blocks_beside_it_keep_theirs(self):
        house, place = self.house(32, 1, [1] * 32)
        other = house.take(32, 4, Given([]))
        house.put(other, [2] * 32)
        house.resize(place, 17, Given([]))
        house.resize(place, 32, Given([]))
        self.assertEqual(self.bytes_of(house, place), [1] * 17 + [0] * 15)
        self.assertEqual(self.bytes_of(house, other), [2] * 32)


if __name__ == "__main__":
    unittest.main()
