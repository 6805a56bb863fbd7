"""start, words, closing, own, kinds, all: how many there are."""

import unittest

from tests import reference
from tests.reference import ALL, CLOSING, KINDS, OWN, START, WORDS, ask, ask_started


def count_for_each(call):
    """The answers of one call for 1 to 8 steps, each of which is one number."""
    answered = [ask_started(n, [call]) for n in range(1, 9)]
    return [number for [number] in answered]


class Counts(unittest.TestCase):
    def test_start_answers_how_many_steps(self):
        for n in range(1, 9):
            self.assertEqual(ask([START, n]), [[n]])

    def test_words(self):
        self.assertEqual(count_for_each(WORDS), [2, 4, 8, 16, 32, 64, 128, 256])

    def test_closing(self):
        self.assertEqual(count_for_each(CLOSING), [0, 2, 2, 6, 10, 22, 42, 86])

    def test_own(self):
        self.assertEqual(count_for_each(OWN), [0, 2, 2, 4, 10, 18, 42, 80])

    def test_kinds(self):
        self.assertEqual(count_for_each(KINDS), [0, 1, 1, 1, 1, 2, 3, 6])

    def test_all_kinds(self):
        self.assertEqual(count_for_each(ALL), [0, 1, 1, 2, 1, 4, 3, 8])

    def test_counts_are_those_of_layers_walked_one_by_one(self):
        for n in range(1, 9):
            counted = [reference.words(n), reference.closing(n), reference.own(n), reference.kinds(n),
                       reference.all_kinds(n)]
            told = ask([START, n], [WORDS], [CLOSING], [OWN], [KINDS], [ALL])
            self.assertEqual(told, [[n]] + [[len(rows)] for rows in counted])

    def test_so_many_close(self):
        for n in range(1, 9):
            more = 2 if n % 2 == 0 else -2
            self.assertEqual(ask_started(n, [CLOSING]), [(2 ** n + more) // 3])

    def test_own_words_are_the_names_of_kinds(self):
        for n in range(1, 9):
            all_names = [name for kind in reference.kinds(n) for name in reference.names(kind)]
            self.assertEqual(len(set(all_names)), len(all_names))
            self.assertEqual(ask_started(n, [OWN]), [len(all_names)])

    def test_all_kinds_are_those_of_numbers_that_go_into_n(self):
        kinds = count_for_each(KINDS)
        for n in range(1, 9):
            together = sum(kinds[layers - 1] for layers in range(1, n + 1) if n % layers == 0)
            self.assertEqual(ask_started(n, [ALL]), [together])

    def test_with_one_step_nothing_closes(self):
        self.assertEqual(ask([START, 1], [WORDS], [CLOSING], [OWN], [KINDS], [ALL]), [[1], [2], [0], [0], [0], [0]])


if __name__ == "__main__":
    unittest.main()
