"""Words: rows of steps, each up (1) or down (0), and the ways to hold them."""


def all_words(n):
    """All words of n steps, in order."""
    words = [[]]
    while len(words[0]) < n:
        # Steps are put in front, down ahead of up: so the words stay in order.
        words = [[0] + word for word in words] + [[1] + word for word in words]
    return words


def is_word(row, n):
    """Whether a row has n numbers, each of them a step."""
    return len(row) == n and all([step in (0, 1) for step in row])


def position_behind(steps):
    """The position of the layer that lies behind these steps from layer 0."""
    return sum([1 if step == 1 else -1 for step in steps]) % 3


def closes(word):
    """Whether behind all steps of the word the position is 0 again."""
    return position_behind(word) == 0


def positions(word):
    """The positions of as many layers as the word has steps, from layer 0 on."""
    return [position_behind(word[:count]) for count in range(len(word))]


def begun_later(row, k):
    """The row with its first k numbers behind the others."""
    return row[k:] + row[:k]


def opposite(word):
    """The word with each step turned."""
    return [1 - step for step in word]


def backwards(word):
    """The word with its steps in the reverse order."""
    return list(reversed(word))


def is_own(word):
    """Whether the word closes, and all comes round behind just as many layers as it has steps."""
    if not closes(word):
        return False
    # Positions are compared, not steps: like steps may come again at another position.
    # Since the word closes, all comes round behind its own layers at the latest.
    layers = positions(word)
    return layers not in [begun_later(layers, sooner) for sooner in range(1, len(word))]


def way(word, t):
    """What way t makes of the word."""
    n = len(word)
    held = begun_later(word, t % n)
    if t // n in (1, 3):
        held = opposite(held)
    if t // n in (2, 3):
        held = backwards(held)
    return held


def all_ways(word):
    """What each way makes of the word, way by way."""
    return [way(word, t) for t in range(4 * len(word))]


def first_name(word):
    """The first, in order, of all that ways make of the word."""
    return min(all_ways(word))


def names_of(word):
    """All that ways make of the word, each once, in order."""
    return sorted(set([tuple(held) for held in all_ways(word)]))


def count_leaving_ways(word):
    """How many ways leave the word, which is to make the same of it."""
    return all_ways(word).count(word)


def is_handed(word):
    """Whether no way that reads the word backwards makes it itself."""
    return word not in all_ways(word)[2 * len(word):]


def count_like_neighbours(word):
    """How many layers have like neighbours: a step that is unlike the one before it."""
    # Before the first step there's the last, which the index -1 is.
    return len([k for k in range(len(word)) if word[k] != word[k - 1]])
