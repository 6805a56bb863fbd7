"""sides, leaving, handed, fixed, sum: the kinds by what the ways leave."""

import unittest

from tests import reference
from tests.reference import (
    ALL, CLOSING, FIXED, HANDED, KINDS, LARGEST, LEAVING, NAMES, SIDES, START, SUM, ask, ask_started,
)

NUMBERS_NO_WORD_HAS = (33, 255, 256, 4294967288, LARGEST)

# How many kinds there are with each number of layers with like neighbours, and of ways that leave them.
SIDES_OF = {1: {}, 2: {2: 1}, 3: {0: 1}, 4: {2: 1}, 5: {2: 1}, 6: {2: 1, 4: 1}, 7: {2: 1, 4: 2}, 8: {2: 2, 4: 2, 6: 2}}
LEAVING_OF = {1: {}, 2: {4: 1}, 3: {6: 1}, 4: {4: 1}, 5: {2: 1}, 6: {2: 1, 4: 1}, 7: {2: 3}, 8: {2: 4, 4: 2}}

# How many closing words each way leaves, a row for each way to turn and read them.
FIXED_OF = {
    1: [0] + [0] + [0] + [0],
    2: [2, 0] + [0, 2] + [0, 2] + [2, 0],
    3: [2, 2, 2] + [0, 0, 0] + [2, 2, 2] + [0, 0, 0],
    4: [6, 0, 2, 0] + [0, 2, 4, 2] + [2, 2, 2, 2] + [4, 0, 4, 0],
    5: [10, 0, 0, 0, 0] + [0, 0, 0, 0, 0] + [2, 2, 2, 2, 2] + [0, 0, 0, 0, 0],
    6: [22, 2, 4, 2, 4, 2] + [0, 2, 0, 8, 0, 2] + [2, 6, 2, 6, 2, 6] + [8, 0, 8, 0, 8, 0],
    7: [42, 0, 0, 0, 0, 0, 0] + [0] * 7 + [6] * 7 + [0] * 7,
    8: [86, 0, 2, 0, 6, 0, 2, 0] + [0, 2, 4, 2, 16, 2, 4, 2] + [6, 10] * 4 + [16, 0] * 4,
}


def ask_each(n, call, numbers):
    """The answers of one call with each of these numbers, each of which is one number."""
    told = ask([START, n], *[[call, number] for number in numbers])
    return [number for [number] in told[1:]]


class Sides(unittest.TestCase):
    def test_each_number_of_layers(self):
        for n in range(1, 9):
            self.assertEqual(ask_each(n, SIDES, range(34)), [SIDES_OF[n].get(h, 0) for h in range(34)])

    def test_layers_below_and_above_lie_alike(self):
        for n in range(1, 9):
            found = [reference.sides(kind) for kind in reference.kinds(n)]
            self.assertEqual(ask_each(n, SIDES, range(n + 1)), [found.count(h) for h in range(n + 1)])

    def test_all_together_are_the_kinds(self):
        for n in range(1, 9):
            self.assertEqual([sum(ask_each(n, SIDES, range(n + 1)))], ask_started(n, [KINDS]))

    def test_numbers_that_no_word_has(self):
        for n in range(1, 9):
            self.assertEqual(ask_each(n, SIDES, NUMBERS_NO_WORD_HAS + (n + 1,)), [0] * 6)

    def test_of_kinds_not_of_all_kinds(self):
        # 0101 has four such layers, but comes round sooner.
        self.assertEqual(ask_started(4, [SIDES, 4]), [0])
        self.assertEqual(ask_started(6, [SIDES, 0]), [0])

    def test_three_layers_of_like_steps_have_none(self):
        self.assertEqual(ask_each(3, SIDES, range(4)), [1, 0, 0, 0])


class Leaving(unittest.TestCase):
    def test_each_number_of_ways(self):
        for n in range(1, 9):
            self.assertEqual(ask_each(n, LEAVING, range(34)), [LEAVING_OF[n].get(m, 0) for m in range(34)])

    def test_ways_are_counted_one_by_one(self):
        for n in range(1, 9):
            found = [len(reference.ways_leaving(kind)) for kind in reference.kinds(n)]
            self.assertEqual(ask_each(n, LEAVING, range(4 * n + 1)), [found.count(m) for m in range(4 * n + 1)])

    def test_numbers_that_no_word_has(self):
        for n in range(1, 9):
            self.assertEqual(ask_each(n, LEAVING, (0, 4 * n + 1) + NUMBERS_NO_WORD_HAS), [0] * 7)

    def test_of_kinds_not_of_all_kinds(self):
        # Eight ways leave 0101, and twelve leave 000000: both come round sooner.
        self.assertEqual(ask_started(4, [LEAVING, 8]), [0])
        self.assertEqual(ask_started(6, [LEAVING, 12]), [0])

    def test_names_times_leaving_ways_are_all_ways(self):
        for n in range(1, 9):
            names = ask_each(n, NAMES, range(len(reference.kinds(n))))
            for m in range(1, 4 * n + 1):
                self.assertEqual(ask_started(n, [LEAVING, m]), [len([count for count in names if count * m == 4 * n])])


class Handed(unittest.TestCase):
    def test_none_of_up_to_eight_layers(self):
        # Begun later and backwards never leaves 001011, but with opposite between it does.
        for n in range(1, 9):
            self.assertEqual(ask_started(n, [HANDED]), [0])
            self.assertEqual([kind for kind in reference.kinds(n) if reference.handed(kind)], [])


class Fixed(unittest.TestCase):
    def test_each_way(self):
        for n in range(1, 9):
            self.assertEqual(ask_each(n, FIXED, range(4 * n)), FIXED_OF[n])

    def test_words_are_held_one_by_one(self):
        for n in range(1, 9):
            for t in range(4 * n):
                self.assertEqual(ask_started(n, [FIXED, t]), [len(reference.left_by(t, n))])

    def test_way_0_leaves_all_closing_words(self):
        for n in range(1, 9):
            self.assertEqual(ask_started(n, [FIXED, 0]), ask_started(n, [CLOSING]))

    def test_ways_that_nothing_is_left_by(self):
        for n in range(1, 9):
            # Merely opposite, no step stays.
            self.assertEqual(ask_started(n, [FIXED, n]), [0])
        self.assertEqual(ask_each(7, FIXED, range(7, 14)), [0] * 7)
        self.assertEqual(ask_started(8, [FIXED, 31]), [0])

    def test_ways_that_there_are_not(self):
        for n in range(1, 9):
            self.assertEqual(ask_each(n, FIXED, (4 * n, 4 * n + 1, 8 * n) + NUMBERS_NO_WORD_HAS), [-22] * 8)

    def test_one_step(self):
        self.assertEqual(ask_each(1, FIXED, range(6)), [0, 0, 0, 0, -22, -22])

    def test_ways_are_those_of_the_last_start(self):
        told = ask([START, 8], [FIXED, 28], [START, 7], [FIXED, 28], [FIXED, 14], [START, 9], [FIXED, 14], [FIXED, 28])
        self.assertEqual(told, [[8], [16], [7], [-22], [6], [-22], [6], [-22]])


class Sum(unittest.TestCase):
    def test_each_number_of_steps(self):
        told = [ask_started(n, [SUM]) for n in range(1, 9)]
        self.assertEqual(told, [[0], [8], [12], [32], [20], [96], [84], [256]])

    def test_all_ways_together(self):
        for n in range(1, 9):
            self.assertEqual(ask_started(n, [SUM]), [sum(ask_each(n, FIXED, range(4 * n)))])

    def test_all_kinds_times_all_ways(self):
        for n in range(1, 9):
            start, [together], [kinds] = ask([START, n], [SUM], [ALL])
            self.assertEqual(together, kinds * 4 * n)


if __name__ == "__main__":
    unittest.main()
