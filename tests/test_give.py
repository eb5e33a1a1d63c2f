import unittest

from tests.helper import ENDS, HIGHEST, LOWEST, PAGE, begin, give, holds, last, less, more, only, run, take, told


class GiveTest(unittest.TestCase):
    def test_its_size(self):
        for n in (0, 1, 16, 17, 32768, 32769, 50000):
            self.assertEqual(only(begin(99, 1, 99), take(n), give(0)), [n])

    def test_a_place_is_free_then(self):
        answered = run(begin(9, 1, 0), take(16), take(16), take(16), give(16), told(16), holds(16), take(9))
        self.assertEqual(answered[4:], [([], [16]), ([], [-5]), ([], [-5]), ([], [16])])

    def test_twice(self):
        self.assertEqual(last(begin(9, 1, 0), take(16), give(0), give(0)), ([], [-5]))

    def test_no_block_begins_there(self):
        start = [begin(99, 20, 0), take(20), take(20), take(40000), give(32)]
        for p in (1, 16, 31, 32, 64, PAGE - 1, PAGE + 1, 2 * PAGE, 11 * PAGE, 99 * PAGE, *ENDS):
            self.assertEqual(last(*start, give(p)), ([], [-5]))
        self.assertEqual(only(*start, give(PAGE)), [40000])

    def test_the_only_run_of_a_size_is_kept(self):
        answered = run(begin(9, 1, 0), take(16), take(17, 4, [1]), give(0), take(5), give(PAGE), take(30))
        self.assertEqual(answered[3:], [([], [16]), ([], [0]), ([], [17]), ([], [PAGE])])

    def test_a_run_with_a_block_left_is_kept(self):
        # Two runs of two places each; every run keeps a block.
        answered = run(begin(9, 1, 0), *[take(2048, 4, [k // 2]) for k in range(4)], give(0), give(PAGE), take(2000))
        self.assertEqual(answered[-3:], [([], [2048]), ([], [2048]), ([], [0])])

    def test_a_run_is_kept_while_the_others_are_full(self):
        answered = run(begin(9, 1, 0), *[take(2048, 4, [k // 2]) for k in range(4)], give(0), give(2048), take(2048))
        self.assertEqual(answered[-3:], [([], [2048]), ([], [2048]), ([], [0])])

    def test_a_run_is_given_up_where_another_has_a_free_place(self):
        start = [begin(9, 1, 0), *[take(2048, 4, [k // 2]) for k in range(4)], give(2048)]
        answered = run(*start, give(PAGE), give(PAGE + 2048), take(9, 4, [5]))
        self.assertEqual(answered[-3:], [([], [2048]), ([less(1, 1)], [2048]), ([more(1)], [5 * PAGE])])

    def test_the_lower_run_may_be_given_up(self):
        answered = run(begin(9, 1, 0), take(4096), take(4096, 4, [1]), give(PAGE), give(0), take(4000))
        self.assertEqual(answered[3:], [([], [4096]), ([less(0, 1)], [4096]), ([], [PAGE])])

    def test_a_free_place_of_another_size_does_not_count(self):
        self.assertEqual(last(begin(9, 1, 0), take(16), take(32, 4, [1]), give(0)), ([], [16]))

    def test_all_pages_of_a_longer_run(self):
        answered = run(begin(99, 1, 0), *[take(5120, 4, [10 * (k // 3)]) for k in range(4)], give(0), give(10 * PAGE))
        self.assertEqual(answered[-1], ([less(10, 4)], [5120]))

    def test_a_great_block_is_always_given_up(self):
        self.assertEqual(last(begin(99, 1, 0), take(40000, 4, [7]), give(7 * PAGE)), ([less(7, 10)], [40000]))
        self.assertEqual(only(begin(99, 1, 0), take(40000, 4, [7]), give(7 * PAGE), told(7 * PAGE)), [-5])


class TrimTest(unittest.TestCase):
    def test_the_highest_pages_beyond_spare_are_given_back(self):
        for spare, asks in ((0, [less(7, 10)]), (1, [less(8, 9)]), (9, [less(16, 1)]), (10, []), (16384, [])):
            self.assertEqual(last(begin(99, 1, spare), take(40000, 4, [7]), give(7 * PAGE)), (asks, [40000]))

    def test_row_by_row_from_the_highest_on(self):
        for spare, asks in (
            (16, []), (15, [less(89, 1)]), (6, [less(80, 10)]), (4, [less(80, 10), less(68, 2)]),
            (3, [less(80, 10), less(67, 3)]), (2, [less(80, 10), less(67, 3), less(39, 1)]),
            (1, [less(80, 10), less(67, 3), less(38, 2)]), (0, [less(80, 10), less(67, 3), less(38, 2), less(19, 1)]),
        ):
            # Of what chunk brings, page 19, pages 38 and 39, and pages 67 to 69 are left free.
            answered = run(
                begin(99, 10, spare), take(16, 4, [10]), take(32768), take(32768, 4, [30]), take(28672, 4, [60]),
                take(40000, 4, [80]), give(80 * PAGE),
            )
            self.assertEqual([answer for before, answer in answered[1:-1]], [
                [10 * PAGE], [11 * PAGE], [30 * PAGE], [60 * PAGE], [80 * PAGE],
            ])
            self.assertEqual(answered[-1], (asks, [40000]))

    def test_the_run_and_the_free_pages_beside_it_are_one_row(self):
        self.assertEqual(last(begin(99, 20, 5), take(40000), give(0)), ([less(5, 15)], [40000]))

    def test_a_run_that_is_kept_trims_nothing(self):
        self.assertEqual(last(begin(99, 20, 5), take(16), give(0)), ([], [16]))

    def test_what_is_given_back_is_outside(self):
        answered = run(begin(99, 1, 4), take(40000), give(0), take(40000, 4, [3]), take(40000, 4, [4]))
        self.assertEqual(answered[2:], [([less(4, 6)], [40000]), ([more(10)], [-7]), ([more(10)], [0])])

    def test_what_less_answers_is_not_looked_at(self):
        for reply in (-1, 0, 7, LOWEST, HIGHEST):
            self.assertEqual(last(begin(99, 1, 0), take(40000), give(0, [reply])), ([less(0, 10)], [40000]))


if __name__ == "__main__":
    unittest.main()
