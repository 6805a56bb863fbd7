"""The document's words said a second time, in another form: words are texts, layers are walked one by one."""

from functools import cache
from itertools import product

from layerkinds.stackings import answers

START, WORDS, CLOSING, OWN, KINDS, ALL, KTH, KTH_ALL, WHICH = range(9)
SIDES, LEAVING, HANDED, FIXED, SUM, NEXT, NAMES, UPS, STATE = range(9, 18)
LARGEST = 4294967295

# Every call of the document with arguments that would do, but start.
CALLS_BUT_START = (
    [1], [2], [3], [4], [5], [6, 0], [7, 0], [8, 2, 0, 1], [9, 0], [10, 4], [11], [12, 0], [13], [14, 2, 0, 1],
    [15, 0], [16, 1], [17],
)


def split_answers(told):
    """The answers of a list of calls, each a list without its count."""
    rows = []
    place = 0
    while place < len(told):
        rows.append(told[place + 1:place + 1 + told[place]])
        if len(rows[-1]) != told[place] or told[place] < 1:
            raise ValueError("a count and its answer don't agree")
        place += 1 + told[place]
    return rows


def ask(*calls):
    """The answers to these calls on one new object."""
    handed = [number for call in calls for number in call]
    return split_answers(answers(handed))


def ask_started(n, call):
    """The answer to one call behind a start with n steps."""
    return ask([START, n], call)[1]


def which_call(word):
    return [WHICH] + steps_of(word)


def next_call(word):
    return [NEXT] + steps_of(word)


def steps_of(word):
    return [len(word)] + [int(step) for step in word]


@cache
def words(n):
    return ["".join(steps) for steps in product("01", repeat=n)]


def layers(word, count):
    """The positions of the first count layers."""
    lying = [0]
    while len(lying) < count:
        step = word[(len(lying) - 1) % len(word)]
        lying.append({"1": {0: 1, 1: 2, 2: 0}, "0": {0: 2, 2: 1, 1: 0}}[step][lying[-1]])
    return lying


@cache
def closing(n):
    return [word for word in words(n) if layers(word, n + 1)[n] == 0]


def comes_round(word):
    """Behind how many layers all comes round: three times the word's steps at the most."""
    lying = layers(word, 9 * len(word))
    later = 1
    while any(lying[i] != lying[i + later] for i in range(3 * len(word))):
        later += 1
    return later


@cache
def own(n):
    return [word for word in closing(n) if comes_round(word) == n]


def names(word):
    """All that is alike: small changes are made till nothing new comes."""
    found = {word}
    left = [word]
    while left:
        now = left.pop()
        turned = now.translate(str.maketrans("01", "10"))
        for other in (now[1:] + now[0], turned, now[::-1]):
            if other not in found:
                found.add(other)
                left.append(other)
    return sorted(found)


@cache
def kinds(n):
    return sorted({names(word)[0] for word in own(n)})


@cache
def all_kinds(n):
    return sorted({names(word)[0] for word in closing(n)})


def way(word, t):
    """What way t makes of the word: each step is looked up where it was before."""
    n = len(word)
    later, turned, reverse = t % n, t // n in (1, 3), t // n in (2, 3)
    places = [n - 1 - i if reverse else i for i in range(n)]
    steps = [word[(place + later) % n] for place in places]
    return "".join({"0": "1", "1": "0"}[step] if turned else step for step in steps)


def ways_leaving(word):
    """The ways that leave the word."""
    return [t for t in range(4 * len(word)) if way(word, t) == word]


def left_by(t, n):
    """The closing words that way t leaves."""
    return [word for word in closing(n) if way(word, t) == word]


def sides(word):
    """How many layers have like neighbours: the layers below and above lie at one position."""
    n = len(word)
    lying = layers(word, 3 * n + 2)
    return sum(lying[i - 1] == lying[i + 1] for i in range(n, 2 * n))


def handed(word):
    return all(t < 2 * len(word) for t in ways_leaving(word))


def next_closing(row, n):
    """What next answers: the refusal alone, or how many steps and they."""
    if len(row) != n or any(step > 1 for step in row):
        return [-22]
    behind = [word for word in closing(n) if int(word, 2) > int("".join(map(str, row)), 2)]
    return steps_of(behind[0]) if behind else [-33]


def which(row, n):
    if len(row) != n or any(step > 1 for step in row):
        return [-22]
    word = "".join(map(str, row))
    return [kinds(n).index(names(word)[0])] if word in own(n) else [-33]


def kth(rows, k):
    return steps_of(rows[k]) if k < len(rows) else [-2]


def counted(rows):
    return [len(list(rows))]


# What each call answers behind a start with n steps; given is its number or its word's numbers.
ANSWERS = {
    WORDS: lambda n, given: counted(words(n)),
    CLOSING: lambda n, given: counted(closing(n)),
    OWN: lambda n, given: counted(own(n)),
    KINDS: lambda n, given: counted(kinds(n)),
    ALL: lambda n, given: counted(all_kinds(n)),
    KTH: lambda n, given: kth(kinds(n), given),
    KTH_ALL: lambda n, given: kth(all_kinds(n), given),
    WHICH: lambda n, given: which(given, n),
    SIDES: lambda n, given: counted(kind for kind in kinds(n) if sides(kind) == given),
    LEAVING: lambda n, given: counted(kind for kind in kinds(n) if len(ways_leaving(kind)) == given),
    HANDED: lambda n, given: counted(kind for kind in kinds(n) if handed(kind)),
    FIXED: lambda n, given: counted(left_by(given, n)) if given < 4 * n else [-22],
    SUM: lambda n, given: [sum(len(ways_leaving(word)) for word in closing(n))],
    NEXT: lambda n, given: next_closing(given, n),
    NAMES: lambda n, given: counted(names(kinds(n)[given])) if given < len(kinds(n)) else [-2],
    UPS: lambda n, given: counted(word for word in closing(n) if word.count("1") == given),
    STATE: lambda n, given: [n],
}


def expected(calls):
    """The answers that the document asks for, of calls given one by one."""
    n = 0
    told = []
    for call in calls:
        if call[0] == START:
            told.append([call[1]] if 1 <= call[1] <= 8 else [-22])
            n = call[1] if 1 <= call[1] <= 8 else n
        elif n == 0:
            told.append([-11])
        else:
            given = call[2:] if call[0] in (WHICH, NEXT) else (call[1:] + [None])[0]
            told.append(ANSWERS[call[0]](n, given))
    return told
