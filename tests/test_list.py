import contextlib
import inspect
import io
import sys
import unittest
from unittest import mock

from roomhouse.blocks import answers
from tests.helper import (
    HIGHEST, LOWEST, PAGE, apart, begin, blocks, copy, counts, flat, get, give, holds, put, resize, run, split, sums,
    take, told, trim,
)
from tests.model import Model

CALLS = flat([
    begin(99, 4, 1), take(20, 4, [7, 8]), put(7 * 4096, [1, 2, 3]), take(40000, 12, [-1, 20]), told(7 * 4096),
    resize(7 * 4096, 33), holds(20 * 4096), get(20 * 4096, 5), copy(20 * 4096, 20 * 4096 + 9, 500), blocks(0, 9),
    counts(), sums(), trim([5, 6]), give(20 * 4096, [LOWEST, HIGHEST]), give(3), begin(5, 1, 0, [9]), take(-1),
    get(0, -1), copy(0, 0, -1), blocks(-1, 0), sums(),
])

# Each of the thirteen calls, those that ask and those that are refused among them; a hundred in all.
ROUND = [
    take(300, 4, [-1, 60]), put(60 * PAGE, list(range(100))), copy(60 * PAGE, 60 * PAGE + 50, 200),
    get(60 * PAGE, 200), holds(60 * PAGE + 299), told(60 * PAGE), resize(60 * PAGE, 40000, [70]),
    take(20, 6, [30]), get(70 * PAGE + 50, 100), blocks(0, 1024), counts(), sums(), give(70 * PAGE), give(5),
    resize(60 * PAGE, 5), get(0, 1), blocks(0, 1025), trim([1, 2, 3]), copy(0, 0, 1), told(1), holds(-1), take(-1),
    sums(), take(300, 4, [-1, -1]),
]
HUNDRED = [begin(99, 4, 2), *ROUND, *ROUND, *ROUND, begin(80, 9, 0), *ROUND, trim(), sums()]


class Fixed(list):
    """A list that may be read only."""

    def changed(self, *numbers):
        raise AssertionError("the list of calls was changed")

    __setitem__ = __delitem__ = __iadd__ = __imul__ = changed
    append = extend = insert = pop = remove = clear = sort = reverse = changed


class ListTest(unittest.TestCase):
    def test_to_the_letter(self):
        self.assertEqual(answers([0, 9, 2, 0, 0]), [2, 0, 0])
        self.assertEqual(
            answers([
                0, 9, 2, 0, 1, 5, 1, 20, 4, 2, 3, 77, 4, 12288, 5, 12307, 6, 12288, 2, 255, 0,
                3, 12288, 16, 0, 2, 16384, 0, 2, 16384, 1, 9, 0, 1, 1, 0, 0, 0, 1, 1, -1, 0,
            ]),
            [
                2, 0, 0,
                4, 1, 1, 2, 12288,
                3, 0, 20, 32,
                2, 0, 12288,
                2, 0, 0,
                2, 0, 16384,
                2, 0, 16,
                2, 0, -5,
                5, 1, 2, 3, 2, 0,
                2, 0, -8,
            ],
        )

    def test_the_later_calls_to_the_letter(self):
        self.assertEqual(
            answers([
                0, 9, 2, 0, 0, 1, 20, 4, 1, 3, 6, 12288, 2, 255, 7, 8, 12288, 12289, 2, 7, 12288, 4, 7, 12288, 0,
                9, 0, 5, 9, 1, 5, 11, 12, 0, 12, 2, 8, 8, 10, 7, 1, 1, 8, 1, 1, 1, 9, 0, -1, 7, 1, -1, 8, 1, 1, -1,
            ]),
            [
                2, 0, 0,
                4, 1, 1, 2, 12288,
                2, 0, 0,
                2, 0, 0,
                6, 0, 0, 255, 255, 7, 0,
                2, 0, 0,
                4, 0, 1, 12288, 20,
                2, 0, 1,
                14, 0, 0, 1, 20, 32, 4096, 2, 1, 1, 1, 0, 2, 0, 2,
                5, 1, 2, 4, 1, 1,
                2, 0, 0,
                83, 0, 0, 0, 0, 1, 1, *[0] * 76, 0,
                2, 0, -5,
                2, 0, -5,
                2, 0, -8,
                2, 0, -8,
                2, 0, -8,
            ],
        )

    def test_an_ask_of_more_and_of_less_in_one_answer(self):
        numbers = answers(flat([begin(99, 1, 0), take(36000), resize(0, 36865, [20])]))
        self.assertEqual(numbers, [2, 0, 0, 4, 1, 1, 9, 0, 7, 2, 1, 10, 2, 0, 9, 81920])

    def test_a_refusal_stands_behind_the_asks(self):
        self.assertEqual(answers(flat([begin(9, 4, 0), take(1, 4, [-1, 9])])), [2, 0, 0, 6, 2, 1, 4, 1, 1, -7])

    def test_what_is_handed_in_is_not_changed(self):
        for calls in (CALLS, flat(HUNDRED)):
            handed = list(calls)
            answers(handed)
            self.assertEqual(handed, calls)

    def test_not_for_a_while_either(self):
        for calls in (CALLS, flat(HUNDRED)):
            self.assertEqual(answers(Fixed(calls)), answers(list(calls)))

    def test_nothing_is_kept_from_one_time_to_the_next(self):
        for calls in (CALLS, flat(HUNDRED)):
            handed = list(calls)
            self.assertEqual(answers(handed), answers(handed))
            self.assertEqual(answers(handed), answers(list(calls)))
        answers(flat([begin(9, 1, 0), take(5)]))
        self.assertEqual(run(begin(9, 1, 0), told(0)), [([], [0]), ([], [-5])])

    def test_what_is_given_back_is_new_each_time(self):
        first = answers(list(CALLS))
        first.clear()
        self.assertGreater(len(answers(list(CALLS))), 0)

    def test_whole_numbers_alone(self):
        for calls in (CALLS, flat(HUNDRED)):
            numbers = answers(list(calls))
            self.assertIs(type(numbers), list)
            self.assertEqual({type(number) for number in numbers}, {int})

    def test_nothing_is_printed(self):
        out, wrong = io.StringIO(), io.StringIO()
        with contextlib.redirect_stdout(out), contextlib.redirect_stderr(wrong):
            answers(list(CALLS))
        self.assertEqual((out.getvalue(), wrong.getvalue()), ("", ""))

    def test_nothing_is_read_or_imported(self):
        with mock.patch("builtins.open", None), mock.patch("builtins.input", None):
            with mock.patch("builtins.__import__", None), mock.patch("sys.stdin", None):
                numbers = answers(flat(HUNDRED))
        self.assertEqual(numbers, answers(flat(HUNDRED)))

    def test_long_lists_are_gone_through_by_loops(self):
        # The last of these have nearly 16000 numbers.
        long_lists = [
            flat(HUNDRED), flat([begin(9, 1, 0), *[take(16)] * 99]),
            flat([begin(999, 1, 0), take(2 ** 21), *[put(k, [9] * 4096) for k in range(3)], copy(0, 5, 2 ** 20)]),
            flat([begin(9, 1, 0, [0] * 4096), *[trim([0] * 3900)] * 3]),
        ]
        before = sys.getrecursionlimit()
        for calls in long_lists:
            self.assertLessEqual(len(calls), 16000)
            expected = answers(list(calls))
            sys.setrecursionlimit(len(inspect.stack(0)) + 40)
            try:
                numbers = answers(list(calls))
            finally:
                sys.setrecursionlimit(before)
            self.assertEqual(numbers, expected)

    def test_a_hundred_calls(self):
        answered = run(begin(9, 1, 0), *[take(16)] * 99)
        self.assertEqual([answer for asks, answer in answered[1:]], [[16 * k] for k in range(99)])

    def test_a_hundred_calls_of_all_kinds(self):
        self.assertEqual(len(HUNDRED), 100)
        self.assertEqual({call[0] for call in HUNDRED}, set(range(13)))
        model = Model()
        expected = []
        for call in HUNDRED:
            many = (3, 2, 1, 2, 1, 1, 1, 2, 3, 2, 0, 0, 0)[call[0]]
            # What stands behind the numbers is a row, with how many it has before it.
            expected.append(apart(model.call(call[0], call[1:1 + many], call[2 + many:])))
        self.assertEqual(split(answers(flat(HUNDRED))), expected)

    def test_some_of_the_hundred_by_hand(self):
        answered = run(*HUNDRED)
        row = list(range(50)) + list(range(100)) + [0] * 50
        self.assertEqual(answered[1], ([(1, 4), (1, 1)], [60 * PAGE]))
        self.assertEqual(answered[4], ([], [0] + row))
        self.assertEqual(answered[7], ([(1, 10)], [70 * PAGE]))
        self.assertEqual(answered[8], ([(1, 4)], [30 * PAGE]))
        self.assertEqual(answered[9], ([], [0] + row[50:150]))
        self.assertEqual(answered[10], ([], [2, 30 * PAGE, 20, 70 * PAGE, 40000]))
        # The run of 320 bytes is kept without a block; of four pages that came, three are free.
        self.assertEqual(answered[12], ([], [
            0, 2, 40020, 64 + 40960, 12 * PAGE, 15, 3, 12, 4, 1, 15, 0, 15,
        ]))
        # 70 to 79 go, and the highest of the three: two are spare.
        self.assertEqual(answered[13], ([(2, 70, 10), (2, 33, 1)], [40000]))
        # The run at page 60 goes, as there are two free pages already; then those.
        self.assertEqual(answered[18], ([(2, 60, 1), (2, 31, 2)], [3]))
        self.assertEqual(answered[23], ([], [0, 1, 20, 64, PAGE, 1, 0, 1, 4, 1, 15, 14, 15]))

    def test_a_long_row_of_answers(self):
        answered = run(
            begin(9, 1, 0, [LOWEST] * 4096), take(16, 4, [5] + [HIGHEST] * 4095), give(5 * 4096, [-1] * 4096),
            resize(5 * 4096, 9, [0] * 3000),
        )
        self.assertEqual(answered, [([], [0]), ([(1, 1)], [5 * 4096]), ([], [16]), ([], [-5])])

    def test_the_numbers_at_the_ends(self):
        for end in (LOWEST, HIGHEST):
            answered = run(
                begin(9, 1, 0), give(end), resize(end, 5), told(end), holds(end), put(end, [1]), put(end, []),
                take(end, 4), take(5, end), resize(5, end), begin(end, end, end),
                get(end, 1), get(end, 0), get(end, end),
                copy(end, end, 1), copy(end, end, 0), copy(end, end, end), blocks(0, end), trim([end] * 9),
            )
            self.assertEqual([answer for asks, answer in answered[1:]], [
                [-5], [-5], [-5], [-5], [-5], [0], [-8], [-8], [-8], [-8], [-5], [0], [-8],
                [-5], [0], [-8], [-8], [0],
            ])


if __name__ == "__main__":
    unittest.main()
