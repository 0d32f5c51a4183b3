"""Caches, and the memory behind them."""

from cacheguess.cache_set import CacheSet
from cacheguess.limits import ADDRESS_END


class Memory:
    def __init__(self):
        self.reads = 0
        self.writes = 0

    def access(self, address, writing):
        if writing:
            self.writes += 1
        else:
            self.reads += 1


class Cache:
    def __init__(self, settings, chance, behind):
        self.sets = [CacheSet(settings[1], settings[3]) for k in range(1 << settings[0])]
        self.line_bits = settings[2]
        self.writes_through = settings[4] == 1
        self.fetches_ahead = settings[5] == 1
        self.chance = chance
        self.behind = behind
        self.reads_found = 0
        self.reads_missed = 0
        self.writes_found = 0
        self.writes_missed = 0
        self.put_away = 0
        self.fetched_ahead = 0

    def counted(self):
        reads = [self.reads_found, self.reads_missed]
        writes = [self.writes_found, self.writes_missed]
        return reads + writes + [self.put_away, self.fetched_ahead]

    def access_bytes(self, address, size, writing):
        first = address >> self.line_bits
        last = (address + size - 1) >> self.line_bits
        for line in range(first, last + 1):
            self.access(line << self.line_bits, writing)

    # No line behind is shorter than one of this cache, so one address stands for a whole line.
    def access(self, address, writing):
        line = address >> self.line_bits
        if writing:
            self.write_line(line)
        else:
            self.read_line(line)

    def read_line(self, line):
        held = self.set_of(line)
        if held.holds(line):
            self.reads_found += 1
            held.use(line)
        else:
            self.reads_missed += 1
            self.fill_and_fetch_ahead(line, False)

    def write_line(self, line):
        held = self.set_of(line)
        found = held.holds(line)
        if found:
            self.writes_found += 1
            held.use(line)
        else:
            self.writes_missed += 1
        if self.writes_through:
            self.access_behind(line, True)
        elif found:
            held.mark(line)
        else:
            self.fill_and_fetch_ahead(line, True)

    def fill_and_fetch_ahead(self, line, marked):
        self.fill_line(line, marked)
        if self.fetches_ahead:
            self.fetch_ahead(line + 1)

    def fetch_ahead(self, line):
        if line << self.line_bits >= ADDRESS_END or self.set_of(line).holds(line):
            return
        self.fetched_ahead += 1
        self.fill_line(line, False)

    # The way is chosen before anything is asked behind: the caches there may draw from the same chance.
    def fill_line(self, line, marked):
        held = self.set_of(line)
        way = held.way_to_fill(self.chance)
        if held.marked[way]:
            self.put_away += 1
            self.access_behind(held.lines[way], True)
        self.access_behind(line, False)
        held.fill(way, line, marked)

    def access_behind(self, line, writing):
        self.behind.access(line << self.line_bits, writing)

    def set_of(self, line):
        return self.sets[line % len(self.sets)]


# The last is made first, because each is told what lies behind it; the first two share what is behind.
def new_caches(settings_of_each, chance, memory):
    behind = memory
    later = []
    for settings in reversed(settings_of_each[2:]):
        behind = Cache(settings, chance, behind)
        later.insert(0, behind)
    first = Cache(settings_of_each[0], chance, behind)
    second = Cache(settings_of_each[1], chance, behind)
    return [first, second] + later
