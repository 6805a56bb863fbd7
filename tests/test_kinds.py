"""kth, kthAll, which: the kinds themselves."""

import unittest

from tests import reference
from tests.reference import (
    ALL, KINDS, KTH, KTH_ALL, LARGEST, START, WHICH, ask, ask_started, steps_of, which_call,
)

KINDS_OF = {
    1: [],
    2: ["01"],
    3: ["000"],
    4: ["0011"],
    5: ["00001"],
    6: ["000111", "001011"],
    7: ["0000011", "0000101", "0001001"],
    8: ["00000001", "00001111", "00010111", "00011011", "00101011", "00101101"],
}
ALL_KINDS_OF = {
    1: [],
    2: ["01"],
    3: ["000"],
    4: ["0011", "0101"],
    5: ["00001"],
    6: ["000000", "000111", "001011", "010101"],
    7: ["0000011", "0000101", "0001001"],
    8: ["00000001", "00001111", "00010111", "00011011", "00101011", "00101101", "00110011", "01010101"],
}


class KthKind(unittest.TestCase):
    def test_tables_are_those_of_layers_walked_one_by_one(self):
        for n in range(1, 9):
            self.assertEqual(KINDS_OF[n], reference.kinds(n))
            self.assertEqual(ALL_KINDS_OF[n], reference.all_kinds(n))

    def test_kth_tells_each_kind_in_order(self):
        for n in range(1, 9):
            told = [ask_started(n, [KTH, k]) for k in range(len(KINDS_OF[n]))]
            self.assertEqual(told, [steps_of(kind) for kind in KINDS_OF[n]])

    def test_kth_all_tells_each_of_all_kinds_in_order(self):
        for n in range(1, 9):
            told = [ask_started(n, [KTH_ALL, k]) for k in range(len(ALL_KINDS_OF[n]))]
            self.assertEqual(told, [steps_of(kind) for kind in ALL_KINDS_OF[n]])

    def test_kth_refuses_what_there_is_not(self):
        for n in range(1, 9):
            for k in (len(KINDS_OF[n]), len(KINDS_OF[n]) + 1, 256, LARGEST):
                self.assertEqual(ask_started(n, [KTH, k]), [-2])

    def test_kth_all_refuses_what_there_is_not(self):
        for n in range(1, 9):
            for k in (len(ALL_KINDS_OF[n]), len(ALL_KINDS_OF[n]) + 1, 256, LARGEST):
                self.assertEqual(ask_started(n, [KTH_ALL, k]), [-2])

    def test_a_word_that_comes_round_sooner_is_among_all_kinds_alone(self):
        self.assertEqual(ask([START, 4], [KINDS], [ALL], [KTH, 1], [KTH_ALL, 1]), [[4], [1], [2], [-2], [4, 0, 1, 0, 1]])

    def test_three_layers_of_like_steps(self):
        self.assertEqual(ask([START, 3], [KTH, 0], [KTH_ALL, 0], [KTH, 1]), [[3], [3, 0, 0, 0], [3, 0, 0, 0], [-2]])

    def test_a_shorter_word_that_does_not_close_by_itself(self):
        # One like step comes round behind three layers: own of three, but not of six.
        self.assertEqual(ask_started(3, which_call("000")), [0])
        self.assertEqual(ask_started(6, [KTH_ALL, 0]), [6, 0, 0, 0, 0, 0, 0])
        self.assertEqual(ask_started(6, which_call("000000")), [-33])

    def test_eight_layers_have_the_longest_answer(self):
        self.assertEqual(ask_started(8, [KTH, 5]), [8, 0, 0, 1, 0, 1, 1, 0, 1])
        self.assertEqual(ask_started(8, [KTH_ALL, 7]), [8, 0, 1, 0, 1, 0, 1, 0, 1])


class WhichKind(unittest.TestCase):
    def test_every_word_of_one_to_eight_steps(self):
        for n in range(1, 9):
            own = reference.own(n)
            calls = [which_call(word) for word in reference.words(n)]
            expected = [
                [KINDS_OF[n].index(reference.names(word)[0])] if word in own else [-33]
                for word in reference.words(n)
            ]
            told = []
            # A list holds 200 calls at the most.
            for first in range(0, len(calls), 199):
                told.extend(ask([START, n], *calls[first:first + 199])[1:])
            self.assertEqual(told, expected)

    def test_each_name_has_the_kind_it_is_a_name_of(self):
        for n in range(1, 9):
            for k, kind in enumerate(KINDS_OF[n]):
                for name in reference.names(kind):
                    self.assertEqual(ask_started(n, which_call(name)), [k])

    def test_otherwise_held(self):
        self.assertEqual(ask_started(8, which_call("00101101")), [5])
        self.assertEqual(ask_started(8, which_call("01101001")), [5])  # later
        self.assertEqual(ask_started(8, which_call("11010010")), [5])  # opposite
        self.assertEqual(ask_started(8, which_call("10110100")), [5])  # backwards

    def test_three_layers_of_like_steps(self):
        self.assertEqual(ask_started(3, which_call("111")), [0])

    def test_a_closing_word_that_comes_round_sooner_is_not_own(self):
        for word in ("0101", "1010", "111111", "101010", "00110011", "10011001", "10101010"):
            self.assertEqual(ask_started(len(word), which_call(word)), [-33])

    def test_a_word_that_does_not_close_is_not_own(self):
        for word in ("0", "1", "00", "001", "0001", "00011", "000001", "0000001", "00000000"):
            self.assertEqual(ask_started(len(word), which_call(word)), [-33])

    def test_another_count_of_steps(self):
        for n in range(1, 9):
            for count in range(61):
                if count != n:
                    self.assertEqual(ask_started(n, [WHICH, count] + [0] * count), [-22])
        self.assertEqual(ask_started(4, which_call("001")), [-22])
        self.assertEqual(ask_started(4, which_call("00110")), [-22])
        self.assertEqual(ask_started(3, which_call("01")), [-22])

    def test_numbers_that_are_no_steps(self):
        for other in (2, 3, 256, LARGEST):
            self.assertEqual(ask_started(1, [WHICH, 1, other]), [-22])
            for place in range(4):
                word = [0, 0, 1, 1]
                word[place] = other
                self.assertEqual(ask_started(4, [WHICH, 4] + word), [-22])

    def test_no_word_before_not_own(self):
        # It neither closes nor has only steps: the first named is answered.
        self.assertEqual(ask_started(4, [WHICH, 4, 0, 0, 0, 2]), [-22])
        self.assertEqual(ask_started(4, [WHICH, 60] + [LARGEST] * 60), [-22])


if __name__ == "__main__":
    unittest.main()
