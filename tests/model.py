"""The document once more, written to be compared with: a state for each page, a byte for each place.

It is slow and knows nothing of the package.
"""

PAGE = 4096
OUTSIDE, FREE, TAKEN = 0, 1, 2
NAMES = "begin take give resize told holds put get copy blocks counts sums trim".split()
SMALL = [16 * k for k in range(1, 9)] + [2 ** d * k // 4 for d in range(7, 15) for k in (5, 6, 7, 8)]


class Refused(Exception):
    def __init__(self, number):
        super().__init__(number)
        self.number = number


def run_pages(z):
    return next(k for k in range(1, 100) if (k * PAGE - k * PAGE // z * z) * 8 <= k * PAGE)


class Model:
    def __init__(self):
        # asked: all asks since begin; refused: how many of those were refused.
        self.state, self.asked, self.refused, self.most_owned = [], [], 0, 0

    def ask(self, *ask):
        self.asks.append(ask)
        self.asked.append(ask)
        return self.g.pop(0) if self.g else 0

    def call(self, number, numbers, row):
        self.asks, self.g = [], list(row) if number != 6 else []
        name = NAMES[number]
        try:
            answer = getattr(self, name)(*numbers, *([row] if number == 6 else []))
        except Refused as refused:
            answer = [refused.number]
        return [len(self.asks), *(number for ask in self.asks for number in ask), *answer]

    # pages

    def rows(self, wanted):
        found = []
        for p, state in enumerate(self.state):
            if state not in wanted:
                continue
            if found and sum(found[-1]) == p:
                found[-1][1] += 1
            else:
                found.append([p, 1])
        return found

    def set_pages(self, p, n, state):
        self.state[p:p + n] = [state] * n

    def trim_pages(self, k):
        while self.state.count(FREE) > k:
            p, n = self.rows([FREE])[-1]
            some = min(n, self.state.count(FREE) - k)
            self.set_pages(p + n - some, some, OUTSIDE)
            self.ask(2, p + n - some, some)

    def ask_more(self, n):
        p = self.ask(1, n)
        if p < 0 or p + n > len(self.state) or any(self.state[p:p + n]):
            self.refused += 1
            return False
        self.set_pages(p, n, FREE)
        self.came += n
        self.most_owned = max(self.most_owned, len(self.state) - self.state.count(OUTSIDE))
        return True

    def lowest(self, n):
        return next((p for p, many in self.rows([FREE]) if many >= n), None)

    def take_pages(self, n):
        if n > 16384:
            raise Refused(-7)
        if self.lowest(n) is None and not self.ask_more(max(n, self.chunk)) and self.chunk > n:
            self.ask_more(n)
        p = self.lowest(n)
        if p is None:
            raise Refused(-7)
        self.set_pages(p, n, TAKEN)
        return p

    def give_pages(self, p, n):
        self.set_pages(p, n, FREE)
        self.trim_pages(self.spare)

    # blocks: place -> [size, room]; runs: [first place, small size]

    def begin(self, size, chunk, spare):
        if not (1 <= size <= 16384 and 1 <= chunk <= 1024 and 0 <= spare <= 16384):
            raise Refused(-8)
        for p, n in self.rows([FREE, TAKEN]):
            self.ask(2, p, n)
        self.state, self.chunk, self.spare = [OUTSIDE] * size, chunk, spare
        self.held, self.runs, self.memory = {}, [], {}
        self.asked, self.refused, self.came, self.most_owned = [], 0, 0, 0
        return [0]

    def places(self, run):
        start, z = run
        return range(start, start + run_pages(z) * PAGE // z * z, z)

    def free(self, z):
        """The free places of a size, from the lowest on, each with its run."""
        return [(p, run) for run in sorted(self.runs) if run[1] == z for p in self.places(run) if p not in self.held]

    def new(self, n, a):
        z = next((z for z in SMALL if z >= n and z % a == 0), None)
        if z is None:
            pages = -(-n // PAGE)
            place = self.take_pages(pages) * PAGE
            self.held[place] = [n, pages * PAGE]
        else:
            if not self.free(z):
                self.runs.append((self.take_pages(run_pages(z)) * PAGE, z))
            place = self.free(z)[0][0]
            self.held[place] = [n, z]
        self.clear(place, n)
        return place

    def clear(self, start, n):
        for at in [at for at in self.memory if start <= at < start + n]:
            del self.memory[at]

    def leave(self, place):
        room = self.held.pop(place)[1]
        if room > 32768:
            self.give_pages(place // PAGE, room // PAGE)
            return
        run = next(run for run in self.runs if place in self.places(run))
        if all(p not in self.held for p in self.places(run)) and any(other != run for _, other in self.free(room)):
            self.runs.remove(run)
            self.give_pages(run[0] // PAGE, run_pages(room))

    def need(self, p):
        if p not in self.held:
            raise Refused(-5)
        return self.held[p]

    def take(self, n, e):
        if not (0 <= n <= 2 ** 30 and 4 <= e <= 12):
            raise Refused(-8)
        return [self.new(n, 2 ** e)]

    def give(self, p):
        size = self.need(p)[0]
        self.leave(p)
        return [size]

    def stays(self, p, n):
        room = self.held[p][1]
        if room <= 32768:
            return next((z for z in SMALL if z >= n), None) == room
        if n <= 32768:
            return False
        have, want, first = room // PAGE, -(-n // PAGE), p // PAGE
        if want < have:
            self.held[p][1] = want * PAGE
            self.give_pages(first + want, have - want)
        elif want > have:
            behind = self.state[first + have:first + want]
            if len(behind) < want - have or any(state != FREE for state in behind):
                return False
            self.held[p][1] = want * PAGE
            self.set_pages(first, want, TAKEN)
        return True

    def resize(self, p, n):
        if not 0 <= n <= 2 ** 30:
            raise Refused(-8)
        old = self.need(p)[0]
        if self.stays(p, n):
            self.held[p][0] = n
            self.clear(p + old, n - old)
            return [p]
        place = self.new(n, 16)
        for at in [at for at in self.memory if p <= at < p + min(old, n)]:
            self.memory[place + at - p] = self.memory[at]
        self.leave(p)
        return [place]

    def told(self, p):
        return list(self.need(p))

    def holds(self, at):
        for p, (size, _) in self.held.items():
            if p <= at < p + size:
                return [p]
        raise Refused(-5)

    def need_bytes(self, at, n):
        if n and not any(p <= at and at + n <= p + size for p, (size, _) in self.held.items()):
            raise Refused(-5)

    def put(self, at, row):
        self.need_bytes(at, len(row))
        for k, byte in enumerate(row):
            self.memory[at + k] = byte
        return [0]

    def get(self, at, n):
        if not 0 <= n <= 4096:
            raise Refused(-8)
        self.need_bytes(at, n)
        return [0] + [self.memory.get(at + k, 0) for k in range(n)]

    def copy(self, origin, to, n):
        if not 0 <= n <= 2 ** 20:
            raise Refused(-8)
        self.need_bytes(origin, n)
        self.need_bytes(to, n)
        new = {to + at - origin: byte for at, byte in self.memory.items() if origin <= at < origin + n}
        self.clear(to, n)
        self.memory.update(new)
        return [0]

    # what is there

    def blocks(self, start, most):
        if start < 0 or not 0 <= most <= 1024:
            raise Refused(-8)
        asked = [pair for turn, pair in enumerate(sorted(self.held.items())) if start <= turn < start + most]
        return [len(self.held)] + [number for p, (size, _) in asked for number in (p, size)]

    def counts(self):
        answer = [0]
        for z in SMALL:
            answer.append(sum(1 for run in self.runs if run[1] == z))
            answer.append(sum(1 for _, room in self.held.values() if room == z))
        return answer + [sum(1 for _, room in self.held.values() if room > 32768)]

    def sums(self):
        sizes = sum(size for size, _ in self.held.values())
        rooms = sum(room for _, room in self.held.values())
        bytes_of_runs = sum(run_pages(z) * PAGE for _, z in self.runs)
        bytes_of_runs += sum(room for _, room in self.held.values() if room > 32768)
        states = [self.state.count(state) for state in (FREE, TAKEN)]
        return [
            0, len(self.held), sizes, rooms, bytes_of_runs, sum(states), *states,
            sum(1 for ask in self.asked if ask[0] == 1), self.refused, self.came,
            sum(ask[2] for ask in self.asked if ask[0] == 2), self.most_owned,
        ]

    def trim(self):
        for run in sorted(self.runs, key=lambda run: (run[1], run[0])):
            if all(p not in self.held for p in self.places(run)):
                self.runs.remove(run)
                self.give_pages(run[0] // PAGE, run_pages(run[1]))
        self.trim_pages(0)
        return [sum(n for _, _, n in self.asks)]
