"""The document's words said a second time, in another form: words are texts, layers are walked one by one."""

from itertools import product

from layerkinds.stackings import answers

START, WORDS, CLOSING, OWN, KINDS, ALL, KTH, KTH_ALL, WHICH = range(9)
LARGEST = 4294967295

# Every call of the document with arguments that would do, but start.
CALLS_BUT_START = (
    [1], [2], [3], [4], [5], [6, 0], [7, 0], [8, 2, 0, 1], [9, 0], [10, 4], [11], [12, 0], [13], [14, 2, 0, 1],
    [15, 0], [16, 1], [17],
)


def split_answers(told):
    """The answers of a list of calls, each a list without its count."""
    rows = []
    place = 0
    while place < len(told):
        rows.append(told[place + 1:place + 1 + told[place]])
        if len(rows[-1]) != told[place] or told[place] < 1:
            raise ValueError("a count and its answer don't agree")
        place += 1 + told[place]
    return rows


def ask(*calls):
    """The answers to these calls on one new object."""
    handed = [number for call in calls for number in call]
    return split_answers(answers(handed))


def ask_started(n, call):
    """The answer to one call behind a start with n steps."""
    return ask([START, n], call)[1]


def which_call(word):
    return [WHICH, len(word)] + [int(step) for step in word]


def steps_of(word):
    return [len(word)] + [int(step) for step in word]


def words(n):
    return ["".join(steps) for steps in product("01", repeat=n)]


def layers(word, count):
    """The positions of the first count layers."""
    lying = [0]
    while len(lying) < count:
        step = word[(len(lying) - 1) % len(word)]
        lying.append({"1": {0: 1, 1: 2, 2: 0}, "0": {0: 2, 2: 1, 1: 0}}[step][lying[-1]])
    return lying


def closing(n):
    return [word for word in words(n) if layers(word, n + 1)[n] == 0]


def comes_round(word):
    """Behind how many layers all comes round: three times the word's steps at the most."""
    lying = layers(word, 9 * len(word))
    later = 1
    while any(lying[i] != lying[i + later] for i in range(3 * len(word))):
        later += 1
    return later


def own(n):
    return [word for word in closing(n) if comes_round(word) == n]


def names(word):
    """All that is alike: small changes are made till nothing new comes."""
    found = {word}
    left = [word]
    while left:
        now = left.pop()
        turned = now.translate(str.maketrans("01", "10"))
        for other in (now[1:] + now[0], turned, now[::-1]):
            if other not in found:
                found.add(other)
                left.append(other)
    return sorted(found)


def kinds(n):
    return sorted({names(word)[0] for word in own(n)})


def all_kinds(n):
    return sorted({names(word)[0] for word in closing(n)})
