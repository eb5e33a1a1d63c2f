import unittest

from roomhouse.given import Given
from roomhouse.house import House
from tests.helper import (
    HIGHEST, LOWEST, PAGE, begin, blocks, flat, get, give, last, less, more, only, put, run, take, told, trim,
)


class TrimTest(unittest.TestCase):
    def test_nothing_to_give_back(self):
        self.assertEqual(last(begin(9, 1, 0), trim()), ([], [0]))
        self.assertEqual(last(begin(9, 1, 0), take(16), trim()), ([], [0]))

    def test_free_pages_up_to_spare_go_too(self):
        for spare in (0, 5, 16384):
            self.assertEqual(last(begin(99, 20, spare), take(16), trim()), ([less(1, 19)], [19]))

    def test_free_pages_in_several_rows(self):
        # Page 19, pages 38 and 39, and pages 67 to 69 are free then.
        calls = [
            begin(99, 10, 16384), take(16, 4, [10]), take(32768), take(32768, 4, [30]), take(28672, 4, [60]),
        ]
        answered = run(*calls, trim(), trim())
        self.assertEqual(answered[-2:], [([less(67, 3), less(38, 2), less(19, 1)], [6]), ([], [0])])

    def test_a_run_whose_places_are_all_free(self):
        self.assertEqual(last(begin(9, 1, 0), take(16), give(0), trim()), ([less(0, 1)], [1]))
        self.assertEqual(last(begin(9, 1, 0), take(5000), give(0), trim()), ([less(0, 4)], [4]))

    def test_a_run_with_a_block_stays(self):
        answered = run(begin(9, 1, 0), take(16), take(16), give(0), trim(), told(16), take(16))
        self.assertEqual(answered[-3:], [([], [0]), ([], [16, 16]), ([], [0])])

    def test_from_the_least_size_on(self):
        # Sizes and pages in other orders; each run goes by itself, as spare is 0.
        calls = [
            begin(99, 1, 0), take(4096, 4, [3]), take(16, 4, [40]), take(5000, 4, [20]), take(100, 4, [9]),
            take(48, 4, [50]),
        ]
        gone = [give(page * PAGE) for page in (3, 40, 20, 9)]
        answered = last(*calls, *gone, trim())
        self.assertEqual(answered, ([less(40, 1), less(9, 1), less(3, 1), less(20, 4)], [7]))

    def test_to_spare_after_each_run_and_at_last_to_0(self):
        calls = [begin(99, 1, 2), take(4096, 4, [3]), take(16, 4, [40]), take(5000, 4, [20]), take(100, 4, [9])]
        gone = [give(page * PAGE) for page in (3, 40, 20, 9)]
        # Free: 40; 9 and 40; 3, 9 and 40, of which 40 goes; 3, 9 and 20 to 23, of which 20 to 23 go; then the rest.
        answered = last(*calls, *gone, trim())
        self.assertEqual(answered, ([less(40, 1), less(20, 4), less(9, 1), less(3, 1)], [7]))

    def test_one_free_run_among_several_of_its_size(self):
        # Three full runs of one place each, at pages 7, 3 and 5.
        calls = [begin(99, 1, 0), *[take(4096, 4, [page]) for page in (7, 3, 5)]]
        self.assertEqual(last(*calls, give(3 * PAGE), trim()), ([less(3, 1)], [1]))
        answered = run(*calls, give(3 * PAGE), give(7 * PAGE), trim(), told(5 * PAGE))
        self.assertEqual(answered[-3:], [([less(7, 1)], [4096]), ([less(3, 1)], [1]), ([], [4096, 4096])])

    def test_a_free_run_beside_one_with_a_free_place(self):
        # The run at page 7 is left without a block while the other is full; then the other is left with one block.
        start = [begin(99, 1, 0), take(2048, 4, [7]), take(2048), take(2048, 4, [3]), take(2048)]
        calls = [*start, give(7 * PAGE), give(7 * PAGE + 2048), give(3 * PAGE)]
        self.assertEqual(last(*calls, trim()), ([less(7, 1)], [1]))
        self.assertEqual(run(*calls, give(3 * PAGE + 2048), trim())[-2:], [([less(3, 1)], [2048]), ([less(7, 1)], [1])])

    def test_several_free_runs_of_one_size_by_their_places(self):
        # By the calls there is never more than one such run of a size, so the house itself is made so.
        house = House()
        house.begin(99, 1, 0, Given([]))
        for page in (7, 3, 5):
            house.take(4096, 4, Given([page]))
            house.take(16384, 4, Given([10 * page]))
        for place in (7 * PAGE, 3 * PAGE, 70 * PAGE, 30 * PAGE, 50 * PAGE):
            house.held.pop(place)
        given = Given([])
        self.assertEqual(house.trim(given), 14)
        self.assertEqual(given.asks, [less(3, 1), less(7, 1), less(30, 4), less(50, 4), less(70, 4)])
        self.assertEqual(house.blocks(0, 9), [1, 5 * PAGE, 4096])

    def test_blocks_and_their_bytes_stay(self):
        calls = [
            begin(99, 5, 9), take(20), put(0, [1, 2, 3]), take(40000, 4, [20]), put(20 * PAGE, [4]), take(33),
            give(PAGE), trim(),
        ]
        self.assertEqual(last(*calls), ([less(1, 4)], [4]))
        self.assertEqual(only(*calls, blocks(0, 9)), [2, 0, 20, 20 * PAGE, 40000])
        self.assertEqual(only(*calls, get(0, 4)), [0, 1, 2, 3, 0])
        self.assertEqual(only(*calls, get(20 * PAGE, 2)), [0, 4, 0])

    def test_what_was_given_back_is_outside(self):
        answered = run(begin(9, 4, 9), take(16), give(0), trim(), take(16), take(32), trim())
        self.assertEqual(answered[3:], [
            ([less(0, 4)], [4]), ([more(4)], [0]), ([], [PAGE]), ([less(2, 2)], [2]),
        ])

    def test_what_less_answers_is_not_looked_at(self):
        for reply in (-1, 0, 7, LOWEST, HIGHEST):
            self.assertEqual(last(begin(9, 1, 0), take(16), give(0), trim([reply] * 3)), ([less(0, 1)], [1]))

    def test_only_this_call_counts(self):
        calls = [begin(99, 1, 0), take(40000), give(0), take(16), give(0)]
        self.assertEqual([only(*calls, trim()), only(*calls, trim(), trim())], [[1], [0]])

    def test_all_forty_sizes(self):
        sizes = [16 * k for k in range(1, 9)] + flat([[32 * 2 ** d * k for k in (5, 6, 7, 8)] for d in range(8)])
        calls = [begin(999, 1, 0), *[take(z, 4, [10 * k]) for k, z in enumerate(reversed(sizes))]]
        gone = [give(10 * k * PAGE) for k in range(40)]
        asks, answer = last(*calls, *gone, trim())
        self.assertEqual([ask[1] for ask in asks], [10 * k for k in reversed(range(40))])
        # 40 pages, and those beyond the first of the longer runs.
        self.assertEqual(answer, [40 + 1 + 1 + 2 + 3 + 2 + 1 + 1 + 4 + 2 + 3 + 3 + 4 + 5 + 6 + 7])


if __name__ == "__main__":
    unittest.main()
