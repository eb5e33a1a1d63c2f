import contextlib
import io
import unittest

from roomhouse.blocks import answers
from tests.helper import HIGHEST, LOWEST, begin, flat, give, holds, put, resize, run, take, told

CALLS = flat([
    begin(99, 4, 1), take(20, 4, [7, 8]), put(7 * 4096, [1, 2, 3]), take(40000, 12, [-1, 20]), told(7 * 4096),
    resize(7 * 4096, 33), holds(20 * 4096), give(20 * 4096, [LOWEST, HIGHEST]), give(3), begin(5, 1, 0, [9]), take(-1),
])


class ListTest(unittest.TestCase):
    def test_to_the_letter(self):
        self.assertEqual(answers([0, 9, 2, 0, 0]), [2, 0, 0])
        self.assertEqual(
            answers([
                0, 9, 2, 0, 1, 5, 1, 20, 4, 2, 3, 77, 4, 12288, 5, 12307, 6, 12288, 2, 255, 0,
                3, 12288, 16, 0, 2, 16384, 0, 2, 16384, 1, 9, 0, 1, 1, 0, 0, 0, 1, 1, -1, 0,
            ]),
            [
                2, 0, 0,
                4, 1, 1, 2, 12288,
                3, 0, 20, 32,
                2, 0, 12288,
                2, 0, 0,
                2, 0, 16384,
                2, 0, 16,
                2, 0, -5,
                5, 1, 2, 3, 2, 0,
                2, 0, -8,
            ],
        )

    def test_an_ask_of_more_and_of_less_in_one_answer(self):
        numbers = answers(flat([begin(99, 1, 0), take(36000), resize(0, 36865, [20])]))
        self.assertEqual(numbers, [2, 0, 0, 4, 1, 1, 9, 0, 7, 2, 1, 10, 2, 0, 9, 81920])

    def test_a_refusal_stands_behind_the_asks(self):
        self.assertEqual(answers(flat([begin(9, 4, 0), take(1, 4, [-1, 9])])), [2, 0, 0, 6, 2, 1, 4, 1, 1, -7])

    def test_what_is_handed_in_is_not_changed(self):
        handed = list(CALLS)
        answers(handed)
        self.assertEqual(handed, CALLS)

    def test_nothing_is_kept_from_one_time_to_the_next(self):
        self.assertEqual(answers(list(CALLS)), answers(list(CALLS)))
        answers(flat([begin(9, 1, 0), take(5)]))
        self.assertEqual(run(begin(9, 1, 0), told(0)), [([], [0]), ([], [-5])])

    def test_what_is_given_back_is_new_each_time(self):
        first = answers(list(CALLS))
        first.clear()
        self.assertGreater(len(answers(list(CALLS))), 0)

    def test_whole_numbers_alone(self):
        numbers = answers(list(CALLS))
        self.assertIs(type(numbers), list)
        self.assertEqual({type(number) for number in numbers}, {int})

    def test_nothing_is_printed(self):
        out, wrong = io.StringIO(), io.StringIO()
        with contextlib.redirect_stdout(out), contextlib.redirect_stderr(wrong):
            answers(list(CALLS))
        self.assertEqual((out.getvalue(), wrong.getvalue()), ("", ""))

    def test_a_hundred_calls(self):
        answered = run(begin(9, 1, 0), *[take(16)] * 99)
        self.assertEqual([answer for asks, answer in answered[1:]], [[16 * k] for k in range(99)])

    def test_a_long_row_of_answers(self):
        answered = run(
            begin(9, 1, 0, [LOWEST] * 4096), take(16, 4, [5] + [HIGHEST] * 4095), give(5 * 4096, [-1] * 4096),
            resize(5 * 4096, 9, [0] * 3000),
        )
        self.assertEqual(answered, [([], [0]), ([(1, 1)], [5 * 4096]), ([], [16]), ([], [-5])])

    def test_the_numbers_at_the_ends(self):
        for end in (LOWEST, HIGHEST):
            answered = run(
                begin(9, 1, 0), give(end), resize(end, 5), told(end), holds(end), put(end, [1]), put(end, []),
                take(end, 4), take(5, end), resize(5, end), begin(end, end, end),
            )
            self.assertEqual([answer for asks, answer in answered[1:]], [
                [-5], [-5], [-5], [-5], [-5], [0], [-8], [-8], [-8], [-8],
            ])


if __name__ == "__main__":
    unittest.main()
