"""Pages: which are the house's, which of those are free, and which are taken, in runs."""

from roomhouse.refusals import NoPages, RunKept, check_range
from roomhouse.rows import how_many, joined, lowest_place, meets, within_one, without

MOST_PAGES = 16384
MOST_CHUNK = 1024
MOST_EXPONENT = 10
MOST_MARK = 7
KEPT = 4


class Pages:
    """The house's pages; free holds its free rows, runs the end and the mark of each run by its first page.

    The other numbers are counted since begin: how often more was asked and refused, how many pages came by it
    and were given back, and the most pages that were the house's at once.
    """

    def __init__(self):
        self.make(0, 1, 0)

    def begin(self, size, chunk, spare, given):
        check_range(size, 1, MOST_PAGES)
        check_range(chunk, 1, MOST_CHUNK)
        check_range(spare, 0, MOST_PAGES)
        for first, end in self.own_rows():
            given.less(first, end - first)
        self.make(size, chunk, spare)

    def make(self, size, chunk, spare):
        """All pages are outside, and nothing is counted yet."""
        self.size = size
        self.chunk = chunk
        self.spare = spare
        self.free = []
        self.runs = {}
        self.asked = 0
        self.refused = 0
        self.came = 0
        self.given_back = 0
        self.most_owned = 0

    def take(self, many, exponent, mark, given):
        """Take a run; its first page."""
        check_range(many, 1, MOST_PAGES)
        check_range(exponent, 0, MOST_EXPONENT)
        check_range(mark, 0, MOST_MARK)
        multiple = 1 << exponent
        first = lowest_place(self.free, many, multiple)
        if first is None:
            self.ask_for(many, multiple, given)
            # Looked for among all free pages: the new ones may lengthen a row that was too short.
            first = lowest_place(self.free, many, multiple)
        if first is None:
            raise NoPages()
        self.free = without(self.free, first, first + many)
        self.runs[first] = (first + many, mark)
        return first

    def give(self, first, given):
        """Give a run up; how many pages it had."""
        end = self.end_of_loose(first)
        self.runs.pop(first)
        self.set_free(first, end)
        self.trim(self.spare, given)
        return end - first

    def grow(self, first, many, given):
        """Make a run longer or shorter where it lies; how many pages it has then."""
        check_range(many, 1, MOST_PAGES)
        end = self.end_of_loose(first)
        goal = first + many
        if goal > end and not within_one(self.free, end, goal):
            raise NoPages()
        self.runs[first] = (goal, self.runs[first][1])
        if goal < end:
            self.set_free(goal, end)
            self.trim(self.spare, given)
        else:
            self.free = without(self.free, end, goal)
        return many

    def mark(self, first, new_mark):
        check_range(new_mark, 0, MOST_MARK)
        self.runs[first] = (self.runs[first][0], new_mark)

    def trim(self, most, given):
        """Give back free pages, from the highest on, till no more than most are free; how many those were."""
        before = self.given_back
        surplus = how_many(self.free) - most
        while surplus > 0:
            highest = self.free[-1]
            end = highest[1]
            start = max(highest[0], end - surplus)
            self.free = without(self.free, start, end)
            given.less(start, end - start)
            self.given_back += end - start
            surplus -= end - start
        return self.given_back - before

    def sums(self):
        """The house's pages, those free and those taken; then what is counted since begin."""
        free = how_many(self.free)
        taken = self.taken()
        counted = [self.asked, self.refused, self.came, self.given_back, self.most_owned]
        return [free + taken, free, taken] + counted

    def taken(self):
        """How many pages are in runs."""
        return sum([run[0] - first for first, run in self.runs.items()])

    def ask_for(self, many, multiple, given):
        """Ask for pages till an ask isn't refused or nothing is left to ask."""
        enough = many + multiple - 1
        if self.granted(max(self.chunk, enough), given):
            return
        if self.chunk > enough and self.granted(enough, given):
            return
        if multiple > 1:
            self.granted(many, given)

    def granted(self, many, given):
        """Ask for so many pages; whether it wasn't refused: they're free then."""
        first = given.more(many)
        end = first + many
        self.asked += 1
        if first < 0 or end > self.size or meets(self.own_rows(), first, end):
            self.refused += 1
            return False
        self.set_free(first, end)
        self.came += many
        self.most_owned = max(self.most_owned, how_many(self.free) + self.taken())
        return True

    def own_rows(self):
        """All pages of the house, free or taken, row by row."""
        return joined(self.free + [(first, run[0]) for first, run in self.runs.items()])

    def end_of_loose(self, first):
        """The page behind a run that may be given up."""
        run = self.runs[first]
        if run[1] & KEPT:
            raise RunKept()
        return run[0]

    def set_free(self, first, end):
        self.free = joined(self.free + [(first, end)])
