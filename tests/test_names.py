"""names, next, ups, state: names of kinds, and closing words one behind another."""

import unittest

from tests import reference
from tests.reference import (
    CLOSING, KINDS, LARGEST, NAMES, NEXT, OWN, START, STATE, UPS, ask, ask_started, next_call, steps_of, which_call,
)

NAMES_OF = {1: [], 2: [2], 3: [2], 4: [4], 5: [10], 6: [6, 12], 7: [14, 14, 14], 8: [16, 8, 16, 16, 16, 8]}

# How many closing words have none, one, two .. steps up.
UPS_OF = {
    1: [0, 0],
    2: [0, 2, 0],
    3: [1, 0, 0, 1],
    4: [0, 0, 6, 0, 0],
    5: [0, 5, 0, 0, 5, 0],
    6: [1, 0, 0, 20, 0, 0, 1],
    7: [0, 0, 21, 0, 0, 21, 0, 0],
    8: [0, 8, 0, 0, 70, 0, 0, 8, 0],
}


class Names(unittest.TestCase):
    def test_each_kind(self):
        for n in range(1, 9):
            told = ask([START, n], *[[NAMES, k] for k in range(len(NAMES_OF[n]))])
            self.assertEqual(told[1:], [[count] for count in NAMES_OF[n]])
            self.assertEqual(NAMES_OF[n], [len(reference.names(kind)) for kind in reference.kinds(n)])

    def test_kinds_that_there_are_not(self):
        for n in range(1, 9):
            for k in (len(NAMES_OF[n]), len(NAMES_OF[n]) + 1, 8, 256, LARGEST):
                self.assertEqual(ask_started(n, [NAMES, k]), [-2])

    def test_of_kinds_not_of_all_kinds(self):
        self.assertEqual(ask([START, 4], [NAMES, 0], [NAMES, 1]), [[4], [4], [-2]])
        # The first of all kinds of six steps has two names, but comes round sooner.
        self.assertEqual(ask_started(6, [NAMES, 0]), [6])

    def test_three_layers_of_like_steps(self):
        self.assertEqual(ask_started(3, [NAMES, 0]), [2])

    def test_together_they_are_the_own_words(self):
        for n in range(1, 9):
            start, [own], [kinds] = ask([START, n], [OWN], [KINDS])
            self.assertEqual(sum(ask_started(n, [NAMES, k])[0] for k in range(kinds)), own)

    def test_so_many_own_words_are_of_this_kind(self):
        for n in range(1, 9):
            found = [ask_started(n, which_call(word)) for word in reference.words(n)]
            for k in range(len(NAMES_OF[n])):
                self.assertEqual(ask_started(n, [NAMES, k]), [found.count([k])])


class Next(unittest.TestCase):
    def test_every_word_of_one_to_eight_steps(self):
        for n in range(1, 9):
            closing = reference.closing(n)
            for word in reference.words(n):
                behind = [other for other in closing if other > word]
                told = steps_of(behind[0]) if behind else [-33]
                self.assertEqual(ask_started(n, next_call(word)), told)

    def test_closing_words_one_behind_another(self):
        for n in range(1, 9):
            # All steps down come first of all words: they close where three goes into n.
            found = ["0" * n] if n % 3 == 0 else []
            told = ask_started(n, next_call("0" * n))
            while told != [-33]:
                self.assertEqual(told[0], n)
                found.append("".join(map(str, told[1:])))
                self.assertLessEqual(len(found), 2 ** n)
                told = ask_started(n, next_call(found[-1]))
            self.assertEqual(found, reference.closing(n))
            self.assertEqual([len(found)], ask_started(n, [CLOSING]))

    def test_a_word_that_closes_is_not_told_itself(self):
        self.assertEqual(ask_started(4, next_call("0011")), [4, 0, 1, 0, 1])
        self.assertEqual(ask_started(3, next_call("000")), [3, 1, 1, 1])

    def test_a_word_that_does_not_close(self):
        self.assertEqual(ask_started(4, next_call("0000")), [4, 0, 0, 1, 1])
        self.assertEqual(ask_started(4, next_call("0111")), [4, 1, 0, 0, 1])
        self.assertEqual(ask_started(8, next_call("00000000")), [8, 0, 0, 0, 0, 0, 0, 0, 1])

    def test_a_word_that_comes_round_sooner_is_told_too(self):
        self.assertEqual(ask_started(6, next_call("010100")), [6, 0, 1, 0, 1, 0, 1])
        self.assertEqual(ask_started(8, next_call("00110010")), [8, 0, 0, 1, 1, 0, 0, 1, 1])
        # One like step doesn't close, three and six do.
        self.assertEqual(ask_started(6, next_call("111110")), [6, 1, 1, 1, 1, 1, 1])

    def test_the_last_closing_word(self):
        for word in ("10", "111", "1100", "11110", "111111", "1111100", "11111110"):
            self.assertEqual(word, reference.closing(len(word))[-1])
            self.assertEqual(ask_started(len(word), next_call(word)), [-33])

    def test_behind_the_last_closing_word(self):
        for word in ("11", "1101", "1110", "11111", "1111101", "1111111", "11111111"):
            self.assertEqual(ask_started(len(word), next_call(word)), [-33])

    def test_with_one_step_there_is_none(self):
        self.assertEqual(ask([START, 1], next_call("0"), next_call("1")), [[1], [-33], [-33]])

    def test_another_count_of_steps(self):
        for n in range(1, 9):
            for count in range(61):
                if count != n:
                    self.assertEqual(ask_started(n, [NEXT, count] + [0] * count), [-22])
                    self.assertEqual(ask_started(n, [NEXT, count] + [1] * count), [-22])

    def test_numbers_that_are_no_steps(self):
        for other in (2, 3, 256, LARGEST):
            for n in range(1, 9):
                for place in range(n):
                    word = [0] * n
                    word[place] = other
                    self.assertEqual(ask_started(n, [NEXT, n] + word), [-22])

    def test_no_word_before_there_is_none(self):
        # Behind all closing words, and no word: the first named is answered.
        self.assertEqual(ask_started(4, [NEXT, 4, 2, 1, 1, 1]), [-22])
        self.assertEqual(ask_started(4, [NEXT, 60] + [LARGEST] * 60), [-22])
        self.assertEqual(ask_started(1, [NEXT, 0]), [-22])


class Ups(unittest.TestCase):
    def test_each_number_of_steps_up(self):
        for n in range(1, 9):
            told = ask([START, n], *[[UPS, u] for u in range(n + 1)])
            self.assertEqual(told[1:], [[count] for count in UPS_OF[n]])
            found = [word.count("1") for word in reference.closing(n)]
            self.assertEqual(UPS_OF[n], [found.count(u) for u in range(n + 1)])

    def test_all_together_are_the_closing_words(self):
        for n in range(1, 9):
            self.assertEqual([sum(ask_started(n, [UPS, u])[0] for u in range(n + 1))], ask_started(n, [CLOSING]))

    def test_numbers_that_no_word_has(self):
        for n in range(1, 9):
            for u in (n + 1, n + 2, 60, 256, LARGEST):
                self.assertEqual(ask_started(n, [UPS, u]), [0])

    def test_of_closing_words_not_of_own_ones(self):
        # The four own words and 0101 and 1010.
        self.assertEqual(ask_started(4, [UPS, 2]), [6])
        self.assertEqual(ask_started(6, [UPS, 6]), [1])


class State(unittest.TestCase):
    def test_how_many_steps(self):
        for n in range(1, 9):
            self.assertEqual(ask_started(n, [STATE]), [n])

    def test_ahead_of_a_start(self):
        self.assertEqual(ask([STATE], [START, 0], [STATE], [START, 3], [STATE]), [[-11], [-22], [-11], [3], [3]])

    def test_the_last_start_that_is_not_refused(self):
        told = ask([START, 3], [START, 9], [STATE], [START, 8], [STATE], [START, LARGEST], [STATE], [START, 1], [STATE])
        self.assertEqual(told, [[3], [-22], [3], [8], [8], [-22], [8], [1], [1]])


if __name__ == "__main__":
    unittest.main()
