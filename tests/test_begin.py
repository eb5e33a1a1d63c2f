import unittest

from tests.helper import HIGHEST, LOWEST, PAGE, begin, give, holds, less, more, only, run, take, told


class BeginTest(unittest.TestCase):
    def test_both_ends_of_each_range(self):
        for size, chunk, spare in (
            (1, 1, 0), (16384, 1, 0), (1, 1024, 0), (1, 1, 16384), (16384, 1024, 16384), (500, 20, 30),
        ):
            self.assertEqual(run(begin(size, chunk, spare)), [([], [0])])

    def test_just_outside_each_range(self):
        for size, chunk, spare in (
            (0, 1, 0), (16385, 1, 0), (1, 0, 0), (1, 1025, 0), (1, 1, -1), (1, 1, 16385),
            (LOWEST, 1, 0), (HIGHEST, 1, 0), (1, LOWEST, 0), (1, HIGHEST, 0), (1, 1, LOWEST), (1, 1, HIGHEST),
        ):
            self.assertEqual(run(begin(1, 1, 0), begin(size, chunk, spare))[1], ([], [-8]))

    def test_a_second_begin_gives_back_row_by_row(self):
        answered = run(
            begin(100, 1, 0), take(16, 4, [50]), take(32, 4, [9]), take(48, 4, [6]), take(64, 4, [5]),
            take(8 * PAGE + 1, 4, [10]), begin(30, 2, 1),
        )
        self.assertEqual(answered[-1], ([less(5, 2), less(9, 10), less(50, 1)], [0]))

    def test_free_pages_are_given_back_too(self):
        answered = run(begin(100, 8, 0), take(16, 4, [20]), begin(100, 1, 0), begin(100, 1, 0))
        self.assertEqual(answered[1:], [([more(8)], [20 * PAGE]), ([less(20, 8)], [0]), ([], [0])])

    def test_what_less_answers_is_not_looked_at(self):
        for reply in (-1, 0, 7, LOWEST, HIGHEST):
            answered = run(begin(9, 1, 0), take(1, 4, [3]), begin(9, 1, 0, [reply]))
            self.assertEqual(answered[-1], ([less(3, 1)], [0]))

    def test_no_blocks_and_all_pages_outside_then(self):
        answered = run(begin(9, 1, 0), take(1), begin(9, 1, 0), told(0), holds(0), give(0), take(1))
        self.assertEqual([answer for asks, answer in answered[3:6]], [[-5], [-5], [-5]])
        self.assertEqual(answered[6], ([more(1)], [0]))

    def test_a_refused_begin_leaves_the_house_as_it_was(self):
        answered = run(
            begin(9, 4, 0), take(5, 4, [2]), begin(0, 1, 0), told(2 * PAGE), take(5), take(100, 4, [0]), begin(9, 4, 0),
        )
        self.assertEqual(answered[2:], [
            ([], [-8]), ([], [5, 16]), ([], [2 * PAGE + 16]), ([], [3 * PAGE]), ([less(2, 4)], [0]),
        ])

    def test_the_new_size_chunk_and_spare_hold(self):
        answered = run(
            begin(100, 8, 100), take(1), begin(12, 3, 1),
            take(1, 4, [10, 9]), take(8 * PAGE + 1, 4, [0]), give(0), give(9 * PAGE),
        )
        self.assertEqual(answered[3:], [
            # 3 pages from 10 on would be beyond page 11, and 1 page from 9 on isn't.
            ([more(3), more(1)], [9 * PAGE]),
            ([more(9)], [0]),
            ([less(1, 8)], [8 * PAGE + 1]),
            ([], [1]),
        ])

    def test_wrong_numbers_come_before_the_giving_back(self):
        self.assertEqual(only(begin(9, 1, 0), take(1), begin(9, 1, -1)), [-8])
        self.assertEqual(run(begin(9, 1, 0), take(1), begin(9, 1, -1))[2][0], [])


if __name__ == "__main__":
    unittest.main()
