"""What holds, a to d, told by the calls alone: for each number of steps from 1 to 8."""

import unittest

from tests import reference
from tests.reference import (
    ALL, CLOSING, FIXED, KINDS, KTH, KTH_ALL, NAMES, OWN, START, SUM, UPS, WORDS, ask, next_call, which_call,
)


def one(n, *call):
    """The one number that a call answers behind a start with n steps."""
    start, [number] = ask([START, n], list(call))
    return number


def word_told(n, *call):
    """The word that a call answers behind a start with n steps."""
    start, [count, *steps] = ask([START, n], list(call))
    return "".join(map(str, steps))


def closing_words(n):
    """All closing words, each told behind the one ahead; where all steps are down there's none to tell it."""
    first = "0" * n
    found = [first] * one(n, UPS, 0)
    told = ask([START, n], next_call(first))[1]
    # There are no more closing words than words: so the walk ends, whatever is answered.
    while told != [-33] and len(found) <= 2 ** n:
        found.append("".join(map(str, told[1:])))
        told = ask([START, n], next_call(found[-1]))[1]
    return found


class Holds(unittest.TestCase):
    def test_a_so_many_close(self):
        for n in range(1, 9):
            third = one(n, WORDS) + (2 if n % 2 == 0 else -2)
            self.assertEqual(3 * one(n, CLOSING), third)
            self.assertEqual(3 * len(closing_words(n)), third)
            self.assertEqual(3 * sum(one(n, UPS, u) for u in range(n + 1)), third)

    def test_b_all_kinds_times_all_ways_are_what_the_ways_leave(self):
        for n in range(1, 9):
            ways = 4 * n
            self.assertEqual(one(n, ALL) * ways, one(n, SUM))
            self.assertEqual(one(n, ALL) * ways, sum(one(n, FIXED, t) for t in range(ways)))
            self.assertEqual(one(n, FIXED, ways), -22)

    def test_c_all_kinds_are_those_of_the_numbers_that_go_into_n(self):
        for n in range(1, 9):
            parts = [part for part in range(1, n + 1) if n % part == 0]
            self.assertEqual(one(n, ALL), sum(one(part, KINDS) for part in parts))
            # A kind of so many layers, again and again, is one of all kinds of n.
            again = [word_told(part, KTH, k) * (n // part) for part in parts for k in range(one(part, KINDS))]
            self.assertEqual(sorted(again), [word_told(n, KTH_ALL, k) for k in range(one(n, ALL))])

    def test_d_kinds(self):
        self.assertEqual([one(n, KINDS) for n in range(1, 9)], [0, 1, 1, 1, 1, 2, 3, 6])

    def test_d_own_words_are_the_names_of_kinds_each_once(self):
        for n in range(1, 9):
            own = [word for word in reference.words(n) if one(n, *which_call(word)) != -33]
            kinds = [word_told(n, KTH, k) for k in range(one(n, KINDS))]
            names = [reference.names(kind) for kind in kinds]
            self.assertEqual([one(n, NAMES, k) for k in range(len(kinds))], [len(rows) for rows in names])
            self.assertEqual(sorted(name for rows in names for name in rows), own)
            self.assertEqual(one(n, OWN), len(own))


if __name__ == "__main__":
    unittest.main()
