"""Whether the settings of a processor are as told."""

NUMBERS_OF_A_CACHE = 6

# Lowest and highest: sets, ways, a line's bytes, policy, writes go through, next line is fetched.
CACHE_BOUNDS = ((0, 12), (1, 16), (4, 7), (0, 3), (0, 1), (0, 1))

# Lowest and highest: way, table's size, bits of history, places, sets of targets, ways of these, returns kept.
GUESS_BOUNDS = ((0, 4), (0, 14), (0, 14), (0, 10), (0, 10), (1, 8), (0, 64))

TREE_POLICY = 2
WAYS_OF_A_TREE = (1, 2, 4, 8, 16)

# These ways of guessing mix the history into a place of the table, so it may not reach beyond the table.
WAYS_WITH_COMMON_HISTORY = (2, 4)


def within(numbers, bounds):
    for number, bound in zip(numbers, bounds):
        if number < bound[0] or number > bound[1]:
            return False
    return True


def cache_right(cache):
    if not within(cache, CACHE_BOUNDS):
        return False
    return cache[3] != TREE_POLICY or cache[1] in WAYS_OF_A_TREE


# The first two caches stand side by side, so the second is not bound to the first.
def line_lengths_right(caches):
    for number in range(2, len(caches)):
        for before in caches[:number]:
            if caches[number][2] < before[2]:
                return False
    return True


def guesses_right(guesses):
    if not within(guesses, GUESS_BOUNDS):
        return False
    return guesses[0] not in WAYS_WITH_COMMON_HISTORY or guesses[2] <= guesses[1]


def settings_of_caches(n, settings):
    return [settings[NUMBERS_OF_A_CACHE * k : NUMBERS_OF_A_CACHE * (k + 1)] for k in range(n)]


def settings_of_guesses(n, settings):
    return settings[NUMBERS_OF_A_CACHE * n :]


def settings_right(n, settings):
    caches = settings_of_caches(n, settings)
    for cache in caches:
        if not cache_right(cache):
            return False
    return line_lengths_right(caches) and guesses_right(settings_of_guesses(n, settings))
