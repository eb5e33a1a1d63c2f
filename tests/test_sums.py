import unittest

from tests.helper import HIGHEST, PAGE, begin, copy, get, give, last, less, put, resize, run, sums, take, told, trim


class SumsTest(unittest.TestCase):
    def blocks(self, *calls):
        """How many blocks, their sizes, rooms, the bytes of runs."""
        return self.all_of(*calls)[:4]

    def pages(self, *calls):
        """Pages of the house, free, taken; asked, refused, came, given back, the most at once."""
        return self.all_of(*calls)[4:]

    def all_of(self, *calls):
        asks, answer = last(*calls, sums())
        self.assertEqual((asks, len(answer), answer[0]), ([], 13, 0))
        return answer[1:]

    def test_nothing(self):
        self.assertEqual(last(begin(9, 5, 3), sums()), ([], [0] * 13))


class BlocksTest(SumsTest):
    def test_sizes_rooms_and_bytes_of_runs(self):
        calls = [begin(99, 1, 0), take(20)]
        self.assertEqual(self.blocks(*calls), [1, 20, 32, PAGE])
        calls += [take(0, 4, [50]), take(33, 9, [51])]
        self.assertEqual(self.blocks(*calls), [3, 53, 32 + 16 + 512, 3 * PAGE])
        calls += [take(5000, 4, [60])]
        self.assertEqual(self.blocks(*calls), [4, 5053, 560 + 5120, 7 * PAGE])
        calls += [take(40000, 4, [70])]
        self.assertEqual(self.blocks(*calls), [5, 45053, 5680 + 40960, 17 * PAGE])
        calls += [take(20)]
        self.assertEqual(self.blocks(*calls), [6, 45073, 46672, 17 * PAGE])

    def test_free_pages_are_in_no_run(self):
        self.assertEqual(self.blocks(begin(99, 20, 0), take(20)), [1, 20, 32, PAGE])

    def test_a_run_that_is_kept_without_a_block_counts(self):
        self.assertEqual(self.blocks(begin(99, 1, 0), take(5000), give(0)), [0, 0, 0, 4 * PAGE])
        self.assertEqual(self.blocks(begin(99, 1, 0), take(5000), give(0), trim()), [0, 0, 0, 0])

    def test_resize(self):
        calls = [begin(99, 20, 99), take(20), take(40000)]
        self.assertEqual(self.blocks(*calls), [2, 40020, 32 + 40960, 11 * PAGE])
        self.assertEqual(self.blocks(*calls, resize(0, 30)), [2, 40030, 32 + 40960, 11 * PAGE])
        self.assertEqual(self.blocks(*calls, resize(0, 5)), [2, 40005, 16 + 40960, 12 * PAGE])
        self.assertEqual(self.blocks(*calls, resize(PAGE, 50000)), [2, 50020, 32 + 53248, 14 * PAGE])
        self.assertEqual(self.blocks(*calls, resize(PAGE, 33000)), [2, 33020, 32 + 36864, 10 * PAGE])
        self.assertEqual(self.blocks(*calls, resize(PAGE, 32)), [2, 52, 64, PAGE])

    def test_the_most_there_can_be(self):
        self.assertEqual(self.all_of(begin(16384, 1, 0), take(2 ** 26)), [
            1, 2 ** 26, 2 ** 26, 2 ** 26, 16384, 0, 16384, 1, 0, 16384, 0, 16384,
        ])


class PagesTest(SumsTest):
    def test_asks_that_were_not_refused(self):
        calls = [begin(99, 8, 0), take(20)]
        self.assertEqual(self.pages(*calls), [8, 7, 1, 1, 0, 8, 0, 8])
        # There are free pages for it, nothing is asked.
        calls += [take(100)]
        self.assertEqual(self.pages(*calls), [8, 6, 2, 1, 0, 8, 0, 8])
        calls += [take(40000, 4, [20])]
        self.assertEqual(self.pages(*calls), [18, 6, 12, 2, 0, 18, 0, 18])

    def test_asks_that_were_refused(self):
        calls = [begin(99, 8, 0), take(20, 4, [-1, -1])]
        self.assertEqual(self.pages(*calls), [0, 0, 0, 2, 2, 0, 0, 0])
        calls += [take(20, 4, [92, 98])]
        self.assertEqual(self.pages(*calls), [1, 0, 1, 4, 3, 1, 0, 1])
        # 8 pages from 91 on would have page 98 among them, which is the house's; the next ask is answered 0.
        calls += [take(100, 4, [91])]
        self.assertEqual(self.pages(*calls), [2, 0, 2, 6, 4, 2, 0, 2])

    def test_each_kind_of_refusal(self):
        for reply in (-1, 92, 99, HIGHEST, 5, 3, 12):
            calls = [begin(99, 8, 0), take(32768, 4, [5]), take(20, 4, [reply, 50])]
            self.assertEqual(self.pages(*calls), [9, 0, 9, 3, 1, 9, 0, 9])

    def test_a_take_out_of_range_asks_nothing(self):
        calls = [begin(99, 8, 0), take(-1), take(5, 3), take(2 ** 30), take(2 ** 26 + 1)]
        self.assertEqual(self.pages(*calls), [0] * 8)

    def test_given_back_by_give(self):
        calls = [begin(99, 20, 3), take(40000)]
        self.assertEqual(self.pages(*calls), [20, 10, 10, 1, 0, 20, 0, 20])
        calls += [give(0)]
        self.assertEqual(self.pages(*calls), [3, 3, 0, 1, 0, 20, 17, 20])
        calls += [take(40000, 4, [50])]
        self.assertEqual(self.pages(*calls), [23, 13, 10, 2, 0, 40, 17, 23])
        calls += [give(50 * PAGE)]
        self.assertEqual(self.pages(*calls), [3, 3, 0, 2, 0, 40, 37, 23])

    def test_given_back_by_resize(self):
        # Shorter at its place.
        calls = [begin(99, 1, 0), take(20 * PAGE), resize(0, 40000)]
        self.assertEqual(self.pages(*calls), [10, 0, 10, 1, 0, 20, 10, 20])
        # Moved: the old pages are the house's till the new ones are.
        calls += [resize(0, 50000, [50])]
        self.assertEqual(self.pages(*calls), [13, 0, 13, 2, 0, 33, 20, 23])
        # Longer at its place asks nothing and gives nothing back.
        calls = [begin(99, 20, 0), take(40000), resize(0, 50000)]
        self.assertEqual(self.pages(*calls), [20, 7, 13, 1, 0, 20, 0, 20])

    def test_given_back_by_trim(self):
        calls = [begin(99, 20, 5), take(20), give(0), trim()]
        self.assertEqual(self.pages(*calls), [0, 0, 0, 1, 0, 20, 20, 20])
        calls += [trim()]
        self.assertEqual(self.pages(*calls), [0, 0, 0, 1, 0, 20, 20, 20])

    def test_a_refused_resize_counts_its_asks(self):
        calls = [begin(99, 4, 0), take(20), resize(0, 40000, [-1])]
        self.assertEqual(self.pages(*calls), [4, 3, 1, 2, 1, 4, 0, 4])

    def test_the_most_at_once_stays(self):
        calls = [begin(99, 1, 0), take(40000), give(0), take(40000), take(50000, 4, [30]), give(0), give(30 * PAGE)]
        self.assertEqual(self.pages(*calls), [0, 0, 0, 3, 0, 33, 33, 23])

    def test_a_begin_that_comes_again(self):
        calls = [begin(99, 20, 0), take(40000, 4, [-1, -1]), take(40000), give(0), take(40000, 4, [7])]
        self.assertEqual(self.pages(*calls), [20, 10, 10, 4, 2, 40, 20, 20])
        answered = run(*calls, begin(50, 4, 1), sums())
        self.assertEqual(answered[-2:], [([less(7, 20)], [0]), ([], [0] * 13)])
        self.assertEqual(self.pages(*calls, begin(50, 4, 1), take(5)), [4, 3, 1, 1, 0, 4, 0, 4])

    def test_a_refused_begin(self):
        calls = [begin(99, 20, 0), take(40000), begin(99, 20, -1)]
        self.assertEqual(self.pages(*calls), [20, 10, 10, 1, 0, 20, 0, 20])

    def test_calls_that_change_no_sum(self):
        calls = [begin(99, 20, 0), take(40000), take(20)]
        before = self.all_of(*calls)
        others = [told(0), get(0, 9), put(0, [5]), copy(0, 1, 9), sums(), give(5), resize(5, 5), put(-1, [5])]
        self.assertEqual(self.all_of(*calls, *others), before)


if __name__ == "__main__":
    unittest.main()
