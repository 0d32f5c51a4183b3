"""Guesses where jumps and returns go."""


class Targets:
    def __init__(self, set_bits, ways):
        # Of each set pairs of an address and where it went, the latest first.
        self.sets = [[] for k in range(1 << set_bits)]
        self.ways = ways
        self.jumps = 0
        self.unknown = 0

    def follow_jump(self, address, to):
        at = address // 4 % len(self.sets)
        known = self.sets[at]
        self.jumps += 1
        if (address, to) not in known:
            self.unknown += 1
        others = [pair for pair in known if pair[0] != address]
        self.sets[at] = ([(address, to)] + others)[: self.ways]


class Returns:
    def __init__(self, most):
        # Where calls come back to, the latest first.
        self.kept = []
        self.most = most
        self.returns = 0
        self.lost = 0

    def keep(self, address):
        self.kept = ([address] + self.kept)[: self.most]

    def follow_return(self, to):
        self.returns += 1
        if self.kept[:1] != [to]:
            self.lost += 1
        self.kept = self.kept[1:]
