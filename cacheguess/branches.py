"""Guesses whether a branch is taken, and what is learnt from it."""

NEVER = 0
BY_PLACE = 1
BY_COMMON_HISTORY = 2
BY_OWN_HISTORY = 3
BY_CHOICE = 4

COUNTER_AT_FIRST = 1
COUNTER_TOP = 3


class Counters:
    def __init__(self, size):
        self.states = [COUNTER_AT_FIRST] * size

    # Places wrap around here, so that nobody who asks has to know the size.
    def says(self, place):
        return self.states[place % len(self.states)] >= 2

    def learn(self, place, up):
        at = place % len(self.states)
        if up:
            self.states[at] = min(self.states[at] + 1, COUNTER_TOP)
        else:
            self.states[at] = max(self.states[at] - 1, 0)


class Branches:
    def __init__(self, settings):
        size = 1 << settings[1]
        self.way = settings[0]
        self.history_end = 1 << settings[2]
        self.common_history = 0
        self.own_histories = [0] * (1 << settings[3])
        self.by_place = Counters(size)
        self.by_common = Counters(size)
        self.by_own = Counters(self.history_end)
        self.choice = Counters(size)
        self.branches = 0
        self.wrong = 0

    def follow_branch(self, address, taken):
        place = address // 4
        self.branches += 1
        if self.guess(place) != taken:
            self.wrong += 1
        self.learn_from(place, taken)

    def guess(self, place):
        if self.way == NEVER:
            return False
        if self.way == BY_PLACE:
            return self.by_place.says(place)
        if self.way == BY_COMMON_HISTORY:
            return self.guess_by_common(place)
        if self.way == BY_OWN_HISTORY:
            return self.by_own.says(self.own_history(place))
        if self.choice.says(place):
            return self.guess_by_common(place)
        return self.by_place.says(place)

    def guess_by_common(self, place):
        return self.by_common.says(place ^ self.common_history)

    def own_history(self, place):
        return self.own_histories[place % len(self.own_histories)]

    def learn_from(self, place, taken):
        # The choice learns from what the other two said, so it comes before they learn.
        if self.way == BY_CHOICE:
            self.learn_choice(place, taken)
        if self.way == BY_PLACE or self.way == BY_CHOICE:
            self.by_place.learn(place, taken)
        if self.way == BY_COMMON_HISTORY or self.way == BY_CHOICE:
            self.by_common.learn(place ^ self.common_history, taken)
        if self.way == BY_OWN_HISTORY:
            self.learn_own(place, taken)
        self.common_history = self.longer_history(self.common_history, taken)

    def learn_choice(self, place, taken):
        said = self.guess_by_common(place)
        if said != self.by_place.says(place):
            self.choice.learn(place, said == taken)

    def learn_own(self, place, taken):
        history = self.own_history(place)
        self.by_own.learn(history, taken)
        self.own_histories[place % len(self.own_histories)] = self.longer_history(history, taken)

    def longer_history(self, history, taken):
        newest = 1 if taken else 0
        return (2 * history + newest) % self.history_end
