"""Pages by themselves: what blocks' calls lean on, also where they don't come to it by the list of calls."""

import unittest

from roomhouse.given import Given
from roomhouse.house import House
from roomhouse.pages import Pages
from roomhouse.refusals import NoPages, OutOfRange, RunKept
from tests.helper import less, more


def new_pages(size, chunk, spare):
    pages = Pages()
    pages.begin(size, chunk, spare, Given([]))
    return pages


class TakeTest(unittest.TestCase):
    def taken(self, pages, many, exponent, replies):
        given = Given(replies)
        return pages.take(many, exponent, 0, given), given.asks

    def test_at_a_multiple(self):
        self.assertEqual(self.taken(new_pages(99, 1, 0), 3, 3, [5]), (8, [more(10)]))
        self.assertEqual(self.taken(new_pages(99, 20, 0), 3, 3, [-1, 9]), (16, [more(20), more(10)]))

    def test_at_last_the_pages_alone_are_asked_for(self):
        self.assertEqual(self.taken(new_pages(99, 20, 0), 3, 3, [-1, -1, 16]), (16, [more(20), more(10), more(3)]))
        self.assertEqual(self.taken(new_pages(99, 10, 0), 3, 3, [-1, 16]), (16, [more(10), more(3)]))
        self.assertEqual(self.taken(new_pages(99, 1, 0), 3, 1, [-1, 16]), (16, [more(4), more(3)]))

    def test_pages_that_came_by_an_ask_are_the_house_s(self):
        pages = new_pages(99, 1, 0)
        given = Given([-1, 9])
        with self.assertRaises(NoPages):
            pages.take(3, 3, 0, given)
        self.assertEqual(given.asks, [more(10), more(3)])
        # They don't lie at a multiple of 8; they are free, though more than spare.
        self.assertEqual(pages.free, [(9, 12)])
        self.assertEqual(self.taken(pages, 3, 0, []), (9, []))

    def test_ranges(self):
        for many, exponent, mark in (
            (0, 0, 0), (16385, 0, 0), (1, -1, 0), (1, 11, 0), (1, 0, -1), (1, 0, 8),
        ):
            given = Given([])
            with self.assertRaises(OutOfRange):
                new_pages(99, 1, 0).take(many, exponent, mark, given)
            self.assertEqual(given.asks, [])

    def test_the_ends_of_the_ranges(self):
        pages = new_pages(16384, 1, 0)
        self.assertEqual(pages.take(1, 10, 7, Given([1000])), 1024)
        self.assertEqual(pages.runs, {1024: (1025, 7)})


class GivenTest(unittest.TestCase):
    def test_each_ask_uses_up_one_answer(self):
        given = Given([5, 6, 7])
        self.assertEqual(given.more(1), 5)
        given.less(3, 4)
        self.assertEqual([given.more(2), given.more(8)], [7, 0])
        self.assertEqual(given.numbers(), [4, 1, 1, 2, 3, 4, 1, 2, 1, 8])


class MarkTest(unittest.TestCase):
    def test_a_run_that_is_kept(self):
        pages = new_pages(99, 9, 0)
        first = pages.take(3, 0, 4, Given([]))
        given = Given([])
        with self.assertRaises(RunKept):
            pages.give(first, given)
        with self.assertRaises(RunKept):
            pages.grow(first, 4, given)
        pages.mark(first, 0)
        self.assertEqual(pages.grow(first, 4, given), 4)
        self.assertEqual(pages.give(first, given), 4)
        self.assertEqual(given.asks, [less(0, 9)])


    def test_the_marks_of_the_house_s_runs(self):
        house = House()
        house.begin(99, 1, 0, Given([]))
        house.take(16, 4, Given([3]))
        house.take(40000, 4, Given([20]))
        self.assertEqual(house.pages.runs, {3: (4, 4), 20: (30, 0)})

    def test_ranges(self):
        pages = new_pages(99, 9, 0)
        first = pages.take(3, 0, 4, Given([]))
        for wrong in (-1, 8):
            with self.assertRaises(OutOfRange):
                pages.mark(first, wrong)
        self.assertEqual(pages.runs, {0: (3, 4)})
        pages.mark(first, 7)
        self.assertEqual(pages.runs, {0: (3, 7)})


class TrimTest(unittest.TestCase):
    def test_to_so_many(self):
        pages = new_pages(99, 9, 20)
        first = pages.take(3, 0, 0, Given([50]))
        for most, asks, answer, free in (
            (6, [], 0, [(53, 59)]), (4, [less(57, 2)], 2, [(53, 57)]), (3, [less(56, 1)], 1, [(53, 56)]),
        ):
            given = Given([])
            self.assertEqual((pages.trim(most, given), given.asks, pages.free), (answer, asks, free))
        self.assertEqual(pages.give(first, Given([])), 3)
        self.assertEqual(pages.free, [(50, 56)])


class SumsTest(unittest.TestCase):
    def test_pages_that_came_for_a_refused_take(self):
        pages = new_pages(99, 1, 0)
        with self.assertRaises(NoPages):
            pages.take(3, 3, 0, Given([-1, 9]))
        self.assertEqual(pages.sums(), [3, 3, 0, 2, 1, 3, 0, 3])


class GrowTest(unittest.TestCase):
    def test_longer_and_shorter(self):
        pages = new_pages(99, 9, 2)
        first = pages.take(3, 0, 0, Given([]))
        given = Given([])
        self.assertEqual(pages.grow(first, 9, given), 9)
        with self.assertRaises(NoPages):
            pages.grow(first, 10, given)
        with self.assertRaises(OutOfRange):
            pages.grow(first, 16385, given)
        with self.assertRaises(OutOfRange):
            pages.grow(first, 0, given)
        self.assertEqual(given.asks, [])
        self.assertEqual(pages.grow(first, 1, given), 1)
        self.assertEqual(given.asks, [less(3, 6)])
        self.assertEqual(pages.free, [(1, 3)])


if __name__ == "__main__":
    unittest.main()
