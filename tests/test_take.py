import unittest

from tests.helper import ENDS, HIGHEST, LOWEST, PAGE, begin, give, last, less, more, only, run, take, told

# The pages of a small run, by hand: 1792 and 3584 leave just an eighth of one page.
RUN_PAGES = {
    16: 1, 32: 1, 48: 1, 64: 1, 80: 1, 96: 1, 112: 1, 128: 1, 160: 1, 192: 1, 224: 1, 256: 1,
    320: 1, 384: 1, 448: 1, 512: 1, 640: 1, 768: 1, 896: 1, 1024: 1, 1280: 1, 1536: 2, 1792: 1, 2048: 1,
    2560: 2, 3072: 3, 3584: 1, 4096: 1, 5120: 4, 6144: 3, 7168: 2, 8192: 2,
    10240: 5, 12288: 3, 14336: 4, 16384: 4, 20480: 5, 24576: 6, 28672: 7, 32768: 8,
}


def room_of(n, e):
    place = only(begin(1000, 1, 0), take(n, e))[0]
    size, room = only(begin(1000, 1, 0), take(n, e), told(place))
    return place, size, room


class SizeTest(unittest.TestCase):
    def test_there_are_forty_sizes_each_with_its_pages(self):
        self.assertEqual(len(RUN_PAGES), 40)
        below = 0
        for z, pages in RUN_PAGES.items():
            for n in (below + 1, z):
                answered = run(begin(1000, 1, 0), take(n, 4, [100]), told(100 * PAGE))
                self.assertEqual(answered[1:], [([more(pages)], [100 * PAGE]), ([], [n, z])])
            below = z

    def test_the_edges_at_each_multiple(self):
        for e in range(4, 13):
            for n in (0, 1, 16):
                self.assertEqual(room_of(n, e), (0, n, 2 ** e))
            self.assertEqual(room_of(17, e), (0, 17, max(32, 2 ** e)))
            self.assertEqual(room_of(32768, e), (0, 32768, 32768))
            self.assertEqual(room_of(32769, e), (0, 32769, 36864))

    def test_the_least_size_that_is_a_multiple(self):
        for n, e, room in (
            (40, 4, 48), (40, 5, 64), (65, 5, 96), (129, 5, 160), (129, 6, 192), (129, 7, 256), (300, 6, 320),
            (300, 7, 384), (300, 8, 512), (4097, 10, 5120), (4097, 11, 6144), (4097, 12, 8192), (8193, 12, 12288),
            (12289, 12, 16384), (16385, 12, 20480), (28673, 12, 32768),
        ):
            self.assertEqual(room_of(n, e), (0, n, room))

    def test_great_blocks_have_the_pages_their_bytes_need(self):
        for n, pages in ((32769, 9), (36864, 9), (36865, 10), (100 * PAGE, 100), (100 * PAGE + 1, 101)):
            answered = run(begin(1000, 1, 0), take(n, 12, [7]), told(7 * PAGE))
            self.assertEqual(answered[1:], [([more(pages)], [7 * PAGE]), ([], [n, pages * PAGE])])

    def test_the_whole_of_the_greatest_house(self):
        self.assertEqual(last(begin(16384, 1, 0), take(16384 * PAGE)), ([more(16384)], [0]))

    def test_more_pages_than_pages_takes_at_once(self):
        for e in range(4, 13):
            self.assertEqual(last(begin(16384, 1024, 0), take(2 ** 30, e)), ([], [-7]))
        self.assertEqual(last(begin(16384, 1, 0), take(16384 * PAGE + 1)), ([], [-7]))


class WrongTest(unittest.TestCase):
    def test_out_of_range(self):
        for n, e in [(-1, 4), (2 ** 30 + 1, 4), (0, 3), (0, 13), (2 ** 30, 13), (-1, 3)]:
            self.assertEqual(last(begin(9, 1, 0), take(n, e, [0])), ([], [-8]))
        for end in ENDS:
            self.assertEqual(last(begin(9, 1, 0), take(end, 4)), ([], [-8]))
            self.assertEqual(last(begin(9, 1, 0), take(16, end)), ([], [-8]))


class PlaceTest(unittest.TestCase):
    def test_places_one_behind_another(self):
        answered = run(begin(9, 1, 0), *[take(33, 4) for _ in range(3)])
        self.assertEqual([answer for asks, answer in answered[1:]], [[0], [48], [96]])

    def test_as_many_places_as_go_into_a_run(self):
        for z, many in ((48, 85), (1536, 5), (1792, 2), (3584, 1), (5120, 3), (10240, 2), (32768, 1)):
            answered = run(begin(99, 1, 0), *[take(z, 4, [0]) for _ in range(many)], take(z, 4, [50]))
            self.assertEqual([answer for asks, answer in answered[1:-1]], [[z * k] for k in range(many)])
            self.assertEqual(answered[-1], ([more(RUN_PAGES[z])], [50 * PAGE]))

    def test_the_lowest_run_with_a_free_place(self):
        # Runs of size 2048 at pages 7, 3 and 5, full.
        calls = [begin(9, 1, 9), *[take(2048, 4, [page]) for page in (7, 7, 3, 3, 5, 5)]]
        gone = [give(7 * PAGE), give(5 * PAGE + 2048), give(3 * PAGE + 2048)]
        answered = run(*calls, *gone, *[take(2000) for _ in range(3)], take(2000, 4, [8]))
        self.assertEqual(answered[-4:], [
            ([], [3 * PAGE + 2048]), ([], [5 * PAGE + 2048]), ([], [7 * PAGE]), ([more(1)], [8 * PAGE]),
        ])

    def test_the_lowest_free_place(self):
        answered = run(begin(9, 1, 0), *[take(16)] * 6, give(64), give(16), give(48), *[take(9)] * 4)
        self.assertEqual([answer for asks, answer in answered[-4:]], [[16], [48], [64], [96]])

    def test_each_size_has_its_own_runs(self):
        answered = run(begin(9, 1, 0), take(16, 4, [4]), take(17, 4, [2]), take(16), take(32))
        self.assertEqual([answer for asks, answer in answered[1:]], [
            [4 * PAGE], [2 * PAGE], [4 * PAGE + 16], [2 * PAGE + 32],
        ])

    def test_multiples(self):
        for e in range(4, 13):
            for n in (0, 1, 100, 1000, 5000, 20000, 33000):
                answered = run(begin(400, 1, 0), *[take(n, e, [9 * k + 1]) for k in range(5)])
                for asks, answer in answered[1:]:
                    self.assertEqual(answer[0] % 2 ** e, 0)

    def test_small_and_great_at_multiples_of_a_page(self):
        answered = run(
            begin(99, 1, 0), take(1, 12, [3]), take(4096, 12, [4]), take(4097, 12, [7]), take(16, 4, [1]),
            take(40000, 12, [20]),
        )
        self.assertEqual(answered[1:], [
            ([more(1)], [3 * PAGE]), ([more(1)], [4 * PAGE]), ([more(2)], [7 * PAGE]), ([more(1)], [PAGE]),
            ([more(10)], [20 * PAGE]),
        ])

    def test_at_a_multiple_a_block_shares_the_runs_of_its_size(self):
        answered = run(begin(9, 1, 0), take(1, 6), take(64, 4), take(50, 5))
        self.assertEqual([answer for asks, answer in answered[1:]], [[0], [64], [128]])


class AskTest(unittest.TestCase):
    def test_nothing_is_asked_where_pages_are_free(self):
        self.assertEqual(last(begin(99, 20, 0), take(16), take(8 * PAGE + 1)), ([], [PAGE]))

    def test_the_greater_of_chunk_and_pages(self):
        for chunk, n, asked in ((1, 40000, 10), (10, 40000, 10), (11, 40000, 11), (5, 16, 5), (1024, 16, 1024)):
            self.assertEqual(last(begin(2000, chunk, 0), take(n)), ([more(asked)], [0]))

    def test_less_is_asked_for_where_chunk_is_refused(self):
        for refusal in (-1, LOWEST, HIGHEST, 99, 90, 89):
            answered = last(begin(99, 11, 0), take(40000, 4, [refusal, 89]))
            self.assertEqual(answered, ([more(11), more(10)], [89 * PAGE]))
        self.assertEqual(last(begin(99, 11, 0), take(40000, 4, [88])), ([more(11)], [88 * PAGE]))

    def test_no_second_ask_where_chunk_is_not_above(self):
        for chunk in (1, 9, 10):
            self.assertEqual(last(begin(99, chunk, 0), take(40000, 4, [-1, 5])), ([more(10)], [-7]))

    def test_refused_both_times(self):
        for replies in ([-1, -1], [89, 90], [HIGHEST, LOWEST], [-5]):
            answered = last(begin(9, 11, 0), take(40000, 4, replies))
            self.assertEqual(answered, ([more(11), more(10)], [-7]))

    def test_pages_that_are_the_house_s_already(self):
        # Page 10 is taken then, pages 11 to 13 are free.
        start = [begin(99, 4, 0), take(16, 4, [10])]
        for reply in (6, 8, 10, 11, 13):
            self.assertEqual(last(*start, take(5 * PAGE, 4, [reply])), ([more(5)], [-7]))
        self.assertEqual(last(*start, take(5 * PAGE, 4, [5])), ([more(5)], [5 * PAGE]))

    def test_new_pages_lengthen_a_free_row(self):
        start = [begin(99, 4, 0), take(16, 4, [10])]
        self.assertEqual(last(*start, take(5 * PAGE, 4, [14])), ([more(5)], [11 * PAGE]))

    def test_the_lowest_free_pages_are_taken(self):
        # Pages 20 to 29 and 60 to 69 are free then.
        start = [begin(99, 1, 99), *[take(40000, 4, [page]) for page in (60, 20, 40)], give(60 * PAGE), give(20 * PAGE)]
        answered = run(*start, take(32768), take(32769), take(16), take(32), take(48))
        self.assertEqual([answer for asks, answer in answered[-5:]], [
            [20 * PAGE], [60 * PAGE], [28 * PAGE], [29 * PAGE], [69 * PAGE],
        ])

    def test_asks_beyond_the_answers_are_answered_0(self):
        self.assertEqual(last(begin(9, 4, 0), take(16)), ([more(4)], [0]))
        self.assertEqual(last(begin(9, 4, 0), take(16, 4, [-1])), ([more(4), more(1)], [0]))
        self.assertEqual(last(begin(9, 4, 0), take(16, 4, [1]), take(32768)), ([more(8)], [-7]))

    def test_more_answers_than_asks(self):
        self.assertEqual(run(begin(9, 1, 0, [5, 5]), take(16, 4, [3, 4, 5]), take(32)), [
            ([], [0]), ([more(1)], [3 * PAGE]), ([more(1)], [0]),
        ])

    def test_more_than_the_house_is_asked_for_all_the_same(self):
        self.assertEqual(last(begin(9, 20, 0), take(40000, 4, [0, 0])), ([more(20), more(10)], [-7]))

    def test_all_is_as_it_was_where_pages_refuses(self):
        answered = run(begin(9, 1, 0), take(5), take(100, 4, [-1]), told(0), take(5), begin(9, 1, 0))
        self.assertEqual(answered[2:], [([more(1)], [-7]), ([], [5, 16]), ([], [16]), ([less(0, 1)], [0])])


if __name__ == "__main__":
    unittest.main()
