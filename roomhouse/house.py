"""The house: the blocks and the runs of pages that they lie in."""

from roomhouse.content import Content
from roomhouse.pages import KEPT, Pages
from roomhouse.refusals import NoBlock, NoPages, OutOfRange, check_range
from roomhouse.sizes import (
    GREATEST_SMALL, LEAST_MULTIPLE, PAGE, SMALL_SIZES, pages_for, pages_of_run, places_of_run, size_for,
)

MOST_BYTES = 1073741824
LEAST_EXPONENT = 4
MOST_EXPONENT = 12
MOST_HANDED = 4096
MOST_COPIED = 1048576
MOST_LISTED = 1024
MOST_BYTE = 255
HIGHEST = 9223372036854775807


class Block:
    """A block: the bytes asked for, those there are, the first page of its run, and what is in it."""

    def __init__(self, size, room, run):
        self.size = size
        self.room = room
        self.run = run
        self.content = Content()

    def is_great(self):
        return self.room > GREATEST_SMALL


class House:
    """held holds the blocks by their places, small_runs the first pages of each small size's runs.

    Which places of a run are free isn't kept besides: those are free at which no block is held.
    """

    def __init__(self):
        self.pages = Pages()
        self.held = {}
        self.small_runs = {}

    def begin(self, size, chunk, spare, given):
        self.pages.begin(size, chunk, spare, given)
        self.held = {}
        self.small_runs = {}
        for small in SMALL_SIZES:
            self.small_runs[small] = []

    def take(self, size, exponent, given):
        """Take a block; its place."""
        check_range(size, 0, MOST_BYTES)
        check_range(exponent, LEAST_EXPONENT, MOST_EXPONENT)
        return self.lay(size, 1 << exponent, given)

    def give(self, place, given):
        """Give a block up; its size."""
        block = self.block_at(place)
        self.drop(place, given)
        return block.size

    def resize(self, place, size, given):
        """Make a block longer or shorter; its place then."""
        check_range(size, 0, MOST_BYTES)
        block = self.block_at(place)
        if not self.can_stay(block, size, given):
            return self.move(place, size, given)
        block.size = size
        block.content.blank(size, MOST_BYTES)
        return place

    def told(self, place):
        """A block's size and room."""
        block = self.block_at(place)
        return (block.size, block.room)

    def holds(self, at):
        """The place of the block that has the byte at that place."""
        for place, block in self.held.items():
            if place <= at < place + block.size:
                return place
        raise NoBlock()

    def put(self, at, row):
        """Put a row of bytes into a block."""
        check_range(len(row), 0, MOST_HANDED)
        for byte in row:
            check_range(byte, 0, MOST_BYTE)
        if row:
            place = self.holds_all(at, len(row))
            self.held[place].content.write(at - place, tuple(row))

    def get(self, at, many):
        """So many bytes of a block, from place at on."""
        check_range(many, 0, MOST_HANDED)
        if many == 0:
            return []
        place = self.holds_all(at, many)
        return self.held[place].content.read(at - place, many)

    def copy(self, origin, goal, many):
        """Put so many bytes from place origin on to place goal, too."""
        check_range(many, 0, MOST_COPIED)
        if many == 0:
            return
        source = self.holds_all(origin, many)
        target = self.holds_all(goal, many)
        # All is read before anything is written, since the two stretches may overlap.
        parts = self.held[source].content.parts(origin - source, many)
        self.held[target].content.overwrite(goal - target, many, parts)

    def blocks(self, start, most):
        """How many blocks there are; then place and size of some, from the start-th on."""
        check_range(start, 0, HIGHEST)
        check_range(most, 0, MOST_LISTED)
        listed = [len(self.held)]
        for place in sorted(self.held)[start:start + most]:
            listed.extend([place, self.held[place].size])
        return listed

    def counts(self):
        """For each small size how many runs and blocks it has; then how many great blocks there are."""
        rooms = [block.room for block in self.held.values()]
        counted = []
        for small in SMALL_SIZES:
            counted.extend([len(self.small_runs[small]), rooms.count(small)])
        great = [room for room in rooms if room > GREATEST_SMALL]
        return counted + [len(great)]

    def sums(self):
        """How many blocks there are, their sizes, their rooms, the bytes of all runs; then pages' sums."""
        sizes = [block.size for block in self.held.values()]
        rooms = [block.room for block in self.held.values()]
        # Pages are taken for runs of blocks alone. A run that is kept with all its places free is one of them.
        taken = self.pages.taken()
        return [len(sizes), sum(sizes), sum(rooms), taken * PAGE] + self.pages.sums()

    def trim(self, given):
        """Give up all runs without a block, then all free pages; how many pages were given back."""
        before = self.pages.given_back
        for small in SMALL_SIZES:
            for run in list(self.small_runs[small]):
                if self.is_empty(small, run):
                    self.give_up_small(small, run, given)
        self.pages.trim(0, given)
        return self.pages.given_back - before

    def block_at(self, place):
        if place not in self.held:
            raise NoBlock()
        return self.held[place]

    def holds_all(self, at, many):
        """The place of the block that has all of so many bytes from place at on."""
        place = self.holds(at)
        if at + many > place + self.held[place].size:
            raise NoBlock()
        return place

    def lay(self, size, multiple, given):
        """Find a place for a new block, and hold it there."""
        small = size_for(size, multiple)
        if small is None:
            return self.lay_great(size, given)
        return self.lay_small(size, small, given)

    def lay_great(self, size, given):
        pages = pages_for(size)
        run = self.take_run(pages, 0, given)
        place = run * PAGE
        self.held[place] = Block(size, pages * PAGE, run)
        return place

    def lay_small(self, size, small, given):
        runs = self.open_runs(small)
        if not runs:
            runs = [self.take_run(pages_of_run(small), KEPT, given)]
            self.small_runs[small] = sorted(self.small_runs[small] + runs)
        place = self.free_places(small, runs[0])[0]
        self.held[place] = Block(size, small, runs[0])
        return place

    def take_run(self, pages, mark, given):
        try:
            # Exponent 0: no block is asked for at multiples of more than one page's bytes.
            return self.pages.take(pages, 0, mark, given)
        except OutOfRange:
            # More pages than pages' take allows: the block's own numbers were in their ranges,
            # so this is but one more way in which pages refuses.
            raise NoPages()

    def open_runs(self, small):
        """The runs of a small size that have a free place, from the lowest on."""
        return [run for run in self.small_runs[small] if self.free_places(small, run)]

    def free_places(self, small, run):
        return [place for place in places_of_run(small, run) if place not in self.held]

    def drop(self, place, given):
        """Free a block's place, and its run too where that isn't wanted any more."""
        block = self.held.pop(place)
        if block.is_great():
            self.give_up(block.run, given)
        elif self.is_surplus(block.room, block.run):
            self.give_up_small(block.room, block.run, given)

    def give_up_small(self, small, run, given):
        self.small_runs[small].remove(run)
        self.give_up(run, given)

    def give_up(self, run, given):
        self.pages.mark(run, 0)
        self.pages.give(run, given)

    def is_surplus(self, small, run):
        """Whether all places of a run are free, and another run of its size has a free place."""
        # The run itself is one of the open ones.
        return self.is_empty(small, run) and len(self.open_runs(small)) > 1

    def is_empty(self, small, run):
        """Whether all places of a run are free."""
        return len(self.free_places(small, run)) == len(places_of_run(small, run))

    def can_stay(self, block, size, given):
        """Whether a block can have so many bytes where it lies; a great one's run is as long as that then."""
        if not block.is_great():
            return size_for(size, LEAST_MULTIPLE) == block.room
        return size > GREATEST_SMALL and self.stretch(block, pages_for(size), given)

    def stretch(self, block, pages, given):
        """Give a great block's run so many pages; whether pages didn't refuse."""
        if pages * PAGE == block.room:
            return True
        try:
            self.pages.grow(block.run, pages, given)
        except OutOfRange:
            return False
        except NoPages:
            return False
        block.room = pages * PAGE
        return True

    def move(self, place, size, given):
        """Take another block for this one's bytes, and give this one up; the other's place."""
        goal = self.lay(size, LEAST_MULTIPLE, given)
        other = self.held[goal]
        other.content = self.held[place].content
        other.content.blank(size, MOST_BYTES)
        self.drop(place, given)
        return goal
