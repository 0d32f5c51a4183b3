"""One set of a cache: its ways, and which of them is put away."""

EMPTY = -1

USED_LONGEST_AGO = 0
FILLED_LONGEST_AGO = 1
TREE = 2


class CacheSet:
    def __init__(self, ways, policy):
        self.policy = policy
        self.lines = [EMPTY] * ways
        self.marked = [False] * ways
        # The ways, the one used (or filled) longest ago first.
        self.order = list(range(ways))
        # Node k lies at k, its halves at 2 k and 2 k + 1; place 0 is not used.
        self.tree = [0] * ways

    def holds(self, line):
        return line in self.lines

    def use(self, line):
        self.use_way(self.lines.index(line))

    def mark(self, line):
        self.marked[self.lines.index(line)] = True

    # Chance is handed in because all caches share one, and it goes on only when it is asked.
    def way_to_fill(self, chance):
        if EMPTY in self.lines:
            return self.lines.index(EMPTY)
        if self.policy == USED_LONGEST_AGO or self.policy == FILLED_LONGEST_AGO:
            return self.order[0]
        if self.policy == TREE:
            return self.way_by_tree()
        return chance.draw(len(self.lines))

    def fill(self, way, line, marked):
        self.lines[way] = line
        self.marked[way] = marked
        if self.policy == FILLED_LONGEST_AGO:
            self.put_last(way)
        self.use_way(way)

    def use_way(self, way):
        if self.policy == USED_LONGEST_AGO:
            self.put_last(way)
        elif self.policy == TREE:
            self.turn_tree(way)

    def put_last(self, way):
        self.order.remove(way)
        self.order.append(way)

    # The ways are the leaves: with w ways, way k would be node w + k.
    def way_by_tree(self):
        ways = len(self.lines)
        node = 1
        while node < ways:
            node = 2 * node + self.tree[node]
        return node - ways

    def turn_tree(self, way):
        node = len(self.lines) + way
        while node > 1:
            self.tree[node // 2] = 1 - node % 2
            node = node // 2
