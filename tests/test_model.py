import random
import unittest

from roomhouse.blocks import answers, whole_answer
from roomhouse.house import House
from tests.helper import PAGE, flat, split
from tests.model import SMALL, Model


WITH_ROW = (0, 1, 2, 3, 6, 12)


class Maker:
    """Makes calls that fit what a model holds just then, some of them wrong."""

    def __init__(self, seed):
        self.random = random.Random(seed)
        self.model = Model()
        self.pages = self.random.choice((8, 20, 60, 200))
        # Few sizes, so that one size comes to have several runs.
        self.sizes = self.random.sample(SMALL, 2) + self.random.sample(SMALL[22:], 2)

    def numbers(self):
        """Answers for the asks: mostly page numbers from which something may be free."""
        outside = [p for p, n in self.model.rows([0])]
        pick = self.random
        return [
            pick.choice(outside) if outside and pick.random() < 0.7 else pick.randint(-1, self.pages)
            for _ in range(pick.randint(0, 4))
        ]

    def bytes_asked(self):
        pick = self.random
        kind = pick.random()
        if kind < 0.5:
            return max(0, pick.choice(self.sizes) + pick.choice((-1, 0, 0, 1)))
        if kind < 0.75:
            return pick.randint(0, 600)
        if kind < 0.97:
            return pick.randint(8, 20) * PAGE + pick.choice((-1, 0, 1))
        return pick.choice((-1, 2 ** 30, 2 ** 30 + 1, 16384 * PAGE, 16384 * PAGE + 1))

    def bytes_near(self, place):
        size = self.model.held.get(place, (0, 0))[0]
        step = self.random.choice((3, 3, 20, 300, 2 * PAGE))
        return max(0, size + self.random.randint(-step, step))

    def place(self):
        held = list(self.model.held)
        if held and self.random.random() < 0.95:
            return self.random.choice(held)
        return self.random.randint(-1, self.pages * PAGE)

    def at(self):
        place = self.place()
        size = self.model.held.get(place, (0, 0))[0]
        return place + self.random.choice((0, 0, 0, 0, 0, 7, size - 1, size, self.random.randint(0, size)))

    def begin(self):
        pick = self.random
        return 0, [self.pages, pick.randint(1, 12), pick.choice((0, 0, 3, 10))], self.numbers()

    def call(self):
        pick = self.random
        number = pick.choices(range(13), (1, 30, 12, 20, 3, 3, 25, 12, 16, 3, 3, 4, 3))[0]
        if number == 0:
            return self.begin()
        if number == 1:
            return 1, [self.bytes_asked(), pick.choice((4, 4, 4, pick.randint(3, 13)))], self.numbers()
        if number == 2:
            return 2, [self.place()], self.numbers()
        if number == 3:
            place = self.place()
            return 3, [place, pick.choice((self.bytes_asked(), self.bytes_near(place)))], self.numbers()
        if number == 6:
            at = self.at()
            many = pick.choice((0, 1, 3, 40, 700, *[min(self.bytes_from(at), 700)] * 9))
            return 6, [at], [pick.randint(0, 255) for _ in range(many)]
        if number == 12:
            return 12, [], self.numbers()
        return number, self.numbers_without_row(number), []

    def numbers_without_row(self, number):
        pick = self.random
        if number == 4:
            return [self.place()]
        if number == 5:
            return [self.at()]
        if number == 7:
            at = self.at()
            return [at, pick.choice((0, 1, 20, 4096, 4097, -1, *[min(self.bytes_from(at), 4096)] * 12))]
        if number == 8:
            origin, to = self.at(), self.at()
            if pick.random() < 0.4:
                origin = max(0, to + pick.randint(-5, 5))
            both = min(self.bytes_from(origin), self.bytes_from(to))
            return [origin, to, pick.choice((0, 1, 20, 2 ** 20, 2 ** 20 + 1, -1, both + 1, *[both] * 12))]
        if number == 9:
            return [pick.choice((0, 0, 1, 3, 10, -1)), pick.choice((0, 1, 2, 5, 1024, 1024, 1025, -1))]
        return []

    def bytes_from(self, at):
        """How many bytes a block has from that place on."""
        held = self.model.held.items()
        return next((place + size - at for place, (size, _) in held if place <= at < place + size), 1)


class ModelTest(unittest.TestCase):
    def compare_bytes(self, house, model):
        self.assertEqual(sorted(house.held), sorted(model.held))
        for place, block in house.held.items():
            known = {at - place: byte for at, byte in model.memory.items() if place <= at < place + block.size}
            row = block.content.read(0, min(block.size, 3 * PAGE))
            self.assertEqual(row, [known.get(k, 0) for k in range(len(row))])
            for at, byte in known.items():
                self.assertEqual(block.content.read(at, 1), [byte])

    def test_many_lists(self):
        for seed in range(120):
            maker = Maker(seed)
            house = House()
            calls, expected = [], []
            for turn in range(100):
                number, numbers, row = maker.call() if turn else maker.begin()
                answer = maker.model.call(number, numbers, row)
                with self.subTest(seed=seed, turn=turn, call=(number, numbers, row)):
                    self.assertEqual(whole_answer(house, number, numbers, list(row)), answer)
                expected.append(answer)
                calls.append([number, *numbers, *([len(row)] if number in WITH_ROW else []), *row])
                if turn % 5 == 4:
                    self.compare_bytes(house, maker.model)
            self.assertEqual(answers(flat(calls)), flat([[len(answer), *answer] for answer in expected]))
            self.assertEqual(len(split(answers(flat(calls)))), 100)


if __name__ == "__main__":
    unittest.main()
