"""The calls on one object, and what is answered to them."""

from layerkinds.words import (
    all_words, closes, count_leaving_ways, count_like_neighbours, first_name, is_handed, is_own, is_word, names_of, way,
)

START = 0
WORDS = 1
CLOSING = 2
OWN = 3
KINDS = 4
ALL_KINDS = 5
KTH = 6
KTH_ALL = 7
WHICH = 8
SIDES = 9
LEAVING = 10
HANDED = 11
FIXED = 12
SUM = 13
NEXT = 14
NAMES = 15
UPS = 16
STATE = 17

CALLS_WITH_NUMBER = (0, 6, 7, 9, 10, 12, 15, 16)
CALLS_WITH_WORD = (8, 14)

MOST_STEPS = 8

NO_SUCH_KIND = -2
NOT_STARTED = -11
NOT_LET = -22
NOT_FOUND = -33


class Stackings:
    """The object that one list of calls is made on; it has no words ahead of a start."""

    def __init__(self):
        self.steps = 0
        self.words = []
        self.closing = []
        self.own = []
        self.kinds = []
        self.all_kinds = []

    def start(self, n):
        if n < 1 or n > MOST_STEPS:
            return [NOT_LET]
        self.steps = n
        self.words = all_words(n)
        self.closing = [word for word in self.words if closes(word)]
        self.own = [word for word in self.closing if is_own(word)]
        # Ways make closing words of closing ones and own words of own ones, so the first names are among them.
        self.all_kinds = [word for word in self.closing if first_name(word) == word]
        self.kinds = [word for word in self.all_kinds if word in self.own]
        return [n]

    def which(self, word):
        if not is_word(word, self.steps):
            return [NOT_LET]
        if word not in self.own:
            return [NOT_FOUND]
        return [self.kinds.index(first_name(word))]

    def next_closing(self, word):
        if not is_word(word, self.steps):
            return [NOT_LET]
        return told_word([other for other in self.closing if other > word], 0, NOT_FOUND)

    def names(self, k):
        if k >= len(self.kinds):
            return [NO_SUCH_KIND]
        return [len(names_of(self.kinds[k]))]

    def sides(self, h):
        return [len([kind for kind in self.kinds if count_like_neighbours(kind) == h])]

    def leaving(self, m):
        return [len([kind for kind in self.kinds if count_leaving_ways(kind) == m])]

    def handed(self):
        return [len([kind for kind in self.kinds if is_handed(kind)])]

    def fixed(self, t):
        if t >= 4 * self.steps:
            return [NOT_LET]
        return [len([word for word in self.closing if way(word, t) == word])]

    def fixed_together(self):
        return [sum([count_leaving_ways(word) for word in self.closing])]

    def ups(self, u):
        return [len([word for word in self.closing if word.count(1) == u])]

    def call(self, number, given):
        """The answer to one call: a refusal alone, or all the numbers that are answered."""
        if number == START:
            return self.start(given[0])
        if self.steps == 0:
            return [NOT_STARTED]
        if number == WHICH:
            return self.which(given)
        if number == NEXT:
            return self.next_closing(given)
        if number in CALLS_WITH_NUMBER:
            return self.call_with_number(number, given[0])
        return self.call_alone(number)

    def call_with_number(self, number, given):
        if number == KTH:
            return told_word(self.kinds, given, NO_SUCH_KIND)
        if number == KTH_ALL:
            return told_word(self.all_kinds, given, NO_SUCH_KIND)
        if number == SIDES:
            return self.sides(given)
        if number == LEAVING:
            return self.leaving(given)
        if number == FIXED:
            return self.fixed(given)
        if number == NAMES:
            return self.names(given)
        return self.ups(given)

    def call_alone(self, number):
        if number == WORDS:
            return [len(self.words)]
        if number == CLOSING:
            return [len(self.closing)]
        if number == OWN:
            return [len(self.own)]
        if number == KINDS:
            return [len(self.kinds)]
        if number == ALL_KINDS:
            return [len(self.all_kinds)]
        if number == HANDED:
            return self.handed()
        if number == SUM:
            return self.fixed_together()
        return [self.steps]


def told_word(words, k, refusal):
    """How many steps the k-th of the words has, then these steps; the refusal, if there aren't so many."""
    if k >= len(words):
        return [refusal]
    return [len(words[k])] + words[k]


def given_at(calls, place):
    """What is handed in with the call at this place: nothing, one number, or a word's numbers."""
    if calls[place] in CALLS_WITH_NUMBER:
        return [calls[place + 1]]
    if calls[place] in CALLS_WITH_WORD:
        return calls[place + 2:place + 2 + calls[place + 1]]
    return []


def place_behind(calls, place):
    """Where the call behind the one at this place begins."""
    if calls[place] in CALLS_WITH_NUMBER:
        return place + 2
    if calls[place] in CALLS_WITH_WORD:
        return place + 2 + calls[place + 1]
    return place + 1


def answers(calls):
    """For each call, in order, how many numbers are answered, then these."""
    stackings = Stackings()
    told = []
    place = 0
    while place < len(calls):
        answer = stackings.call(calls[place], given_at(calls, place))
        told.append(len(answer))
        told.extend(answer)
        place = place_behind(calls, place)
    return told
