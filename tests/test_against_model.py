"""The program beside a slow model of the document, on many drawn lists of calls.

The model is written another way on purpose: lines with their times in one flat list, histories as texts
of 0 and 1, everything searched through.
"""

import random
import unittest

from tests.helper import TOLD, rows_of, run, start

ACCESS_COUNTS = {(False, True): 0, (False, False): 1, (True, True): 2, (True, False): 3}


class ModelCache:
    def __init__(self, model, settings, behind):
        self.model = model
        self.sets, self.ways, self.line, self.policy, self.through, self.ahead = settings
        self.sets, self.line = 2 ** self.sets, 2 ** self.line
        self.behind = behind
        self.counts = [0] * 6
        self.held = []
        self.bits = {}

    def look(self, begin):
        return next((one for one in self.held if one["begin"] == begin), None)

    def in_set(self, begin):
        return [one for one in self.held if one["begin"] // self.line % self.sets == begin // self.line % self.sets]

    def use(self, one):
        one["used"] = self.model.tick()
        number = one["begin"] // self.line % self.sets
        low, high, node = 0, self.ways, 1
        while self.policy == 2 and high - low > 1:
            middle = (low + high) // 2
            if one["way"] < middle:
                self.bits[number, node] = 1
                high, node = middle, 2 * node
            else:
                self.bits[number, node] = 0
                low, node = middle, 2 * node + 1

    def choose(self, begin):
        inside = self.in_set(begin)
        if self.policy < 2:
            return min(inside, key=lambda one: one["used" if self.policy == 0 else "filled"])["way"]
        if self.policy == 3:
            return self.model.draw() % self.ways
        low, high, node = 0, self.ways, 1
        while high - low > 1:
            middle = (low + high) // 2
            if self.bits.get((begin // self.line % self.sets, node), 0) == 0:
                high, node = middle, 2 * node
            else:
                low, node = middle, 2 * node + 1
        return low

    def fill(self, begin, marked):
        taken = {one["way"]: one for one in self.in_set(begin)}
        empty = [way for way in range(self.ways) if way not in taken]
        way = empty[0] if empty else self.choose(begin)
        if not empty:
            out = taken[way]
            if out["marked"]:
                self.counts[4] += 1
                self.behind.access(out["begin"], True)
        self.behind.access(begin, False)
        if not empty:
            self.held.remove(out)
        one = {"begin": begin, "way": way, "marked": marked, "filled": self.model.tick()}
        self.held.append(one)
        self.use(one)

    def access(self, address, writing):
        begin = address - address % self.line
        one = self.look(begin)
        self.counts[ACCESS_COUNTS[writing, one is not None]] += 1
        if one is not None:
            self.use(one)
            if writing and not self.through:
                one["marked"] = True
        if writing and self.through:
            self.behind.access(address, True)
            return
        if one is None:
            self.fill(begin, writing)
            following = begin + self.line
            if self.ahead and following < 2 ** 48 and self.look(following) is None:
                self.counts[5] += 1
                self.fill(following, False)


class ModelMemory:
    def __init__(self):
        self.counts = [0, 0]

    def access(self, address, writing):
        self.counts[int(writing)] += 1


class Model:
    def __init__(self, n, settings):
        self.time = 0
        self.chance = 0xACE1
        self.memory = ModelMemory()
        parts = [settings[6 * k:6 * k + 6] for k in range(n)]
        fourth = ModelCache(self, parts[3], self.memory) if n > 3 else self.memory
        third = ModelCache(self, parts[2], fourth) if n > 2 else self.memory
        self.caches = [ModelCache(self, parts[k], third) for k in (0, 1)] + [third, fourth][:n - 2]
        self.way, self.size, self.history, self.places, self.sets, self.ways, self.most = settings[6 * n:]
        self.tables = {}
        self.common = "0" * self.history
        self.own = {}
        self.went = []
        self.kept = []
        self.counts = [0] * 6

    def tick(self):
        self.time += 1
        return self.time

    def draw(self):
        half, fell_out = divmod(self.chance, 2)
        self.chance = half ^ 0xB400 if fell_out else half
        return self.chance

    def counter(self, table, place):
        return table, place % 2 ** (self.history if table == 3 else self.size)

    def learn(self, counter, up):
        now = self.tables.get(counter, 1)
        self.tables[counter] = min(3, now + 1) if up else max(0, now - 1)

    def branch(self, address, taken):
        p = address // 4
        place = p % 2 ** self.places
        own = self.own.get(place, "0" * self.history)
        places = {1: p, 2: p ^ int(self.common or "0", 2), 3: int(own or "0", 2), 4: p}
        counters = {table: self.counter(table, places[table]) for table in places}
        said = {table: self.tables.get(counters[table], 1) > 1 for table in counters}
        guessed = {0: False, 1: said[1], 2: said[2], 3: said[3], 4: said[2] if said[4] else said[1]}[self.way]
        self.counts[0] += 1
        self.counts[1] += guessed != bool(taken)
        for table in {0: (), 1: (1,), 2: (2,), 3: (3,), 4: (1, 2)}[self.way]:
            self.learn(counters[table], taken)
        if self.way == 4 and said[1] != said[2]:
            self.learn(counters[4], said[2] == bool(taken))
        self.own[place] = (own + str(taken))[1:]
        self.common = (self.common + str(taken))[1:]

    def jump(self, address, to):
        self.counts[2] += 1
        self.counts[3] += (address, to) not in self.went
        self.went = [(address, to)] + [one for one in self.went if one[0] != address]
        number = address // 4 % 2 ** self.sets
        inside = [one for one in self.went if one[0] // 4 % 2 ** self.sets == number]
        self.went = [one for one in self.went if one not in inside[self.ways:]]

    def follow(self, address, to, size, kind, taken):
        if kind < 3:
            one = self.caches[min(kind, 1)]
            begins = sorted({byte - byte % one.line for byte in range(address, address + size)})
            for begin in begins:
                one.access(begin, kind == 2)
        if kind == 3:
            self.branch(address, taken)
        if kind in (4, 5) or kind == 3 and taken:
            self.jump(address, to)
        if kind == 5:
            self.kept.append(address + size)
            if len(self.kept) > self.most:
                self.kept.pop(0)
        if kind == 6:
            self.counts[4] += 1
            self.counts[5] += not self.kept or self.kept.pop() != to

    def told(self):
        counts = [count for one in self.caches for count in one.counts] + self.memory.counts + self.counts
        return [len(counts)] + counts


def draw_settings(rng):
    n = rng.randint(2, 4)
    lines = [rng.randint(4, 7), rng.randint(4, 7)]
    while len(lines) < n:
        lines.append(rng.randint(max(lines), 7))
    numbers = []
    for line in lines:
        policy = rng.randint(0, 3)
        ways = rng.choice((1, 2, 4, 8, 16)) if policy == 2 else rng.randint(1, 6)
        numbers += [rng.choice((0, 0, 1, 2, 3)), ways, line, policy, rng.randint(0, 1), rng.randint(0, 1)]
    size = rng.randint(0, 6)
    way = rng.randint(0, 4)
    history = rng.randint(0, size if way in (2, 4) else 7)
    return n, numbers + [
        way, size, history, rng.randint(0, 3), rng.randint(0, 3), rng.randint(1, 8), rng.choice((0, 1, 2, 5, 64))
    ]


def draw_record(rng, base):
    kind = rng.randint(0, 6)
    if kind < 3:
        size = rng.choice((1, 2, 4, 8, 8, 64, 300))
        return (min(base + rng.randint(0, 3000), 2 ** 48 - size), 0, size, kind, rng.randint(0, 1))
    size = rng.randint(1, 2)
    address = base + rng.randint(0, 40)
    to = address + 1 if kind == 6 else rng.randint(0, 2)
    return (address, to, size, kind, rng.randint(0, 1))


class AgainstTheModel(unittest.TestCase):
    def test_drawn_calls(self):
        for seed in range(150):
            rng = random.Random(seed)
            n, settings = draw_settings(rng)
            base = rng.choice((0, 4096, 2 ** 47, 2 ** 48 - 2500))
            runs = [[draw_record(rng, base) for k in range(rng.randint(0, 120))] for k in range(3)]
            calls = [start(n, settings)]
            model = Model(n, settings)
            wanted = [[0]]
            for records in runs:
                calls += [run(*records), TOLD]
                for one in records:
                    model.follow(*one)
                wanted += [[0], model.told()]
            with self.subTest(seed=seed, settings=settings):
                self.assertEqual(rows_of(*calls), wanted)


if __name__ == "__main__":
    unittest.main()
