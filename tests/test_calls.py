"""How calls are made and answered: refusals, several calls, nothing kept or changed."""

import unittest

from layerkinds.stackings import answers
from tests.reference import (
    CALLS_BUT_START, FIXED, KINDS, KTH, KTH_ALL, LARGEST, LEAVING, NAMES, NEXT, SIDES, START, STATE, SUM, UPS, WHICH,
    WORDS, ask,
)

NO_COUNTS_OF_STEPS = (0, 9, 10, 255, 256, 4294967288, LARGEST)


class Start(unittest.TestCase):
    def test_refused_without_an_earlier_start(self):
        for n in NO_COUNTS_OF_STEPS:
            self.assertEqual(ask([START, n]), [[-22]])

    def test_refused_start_is_no_start(self):
        for n in NO_COUNTS_OF_STEPS:
            for call in CALLS_BUT_START:
                self.assertEqual(ask([START, n], call), [[-22], [-11]])

    def test_refused_start_changes_nothing(self):
        asked = (
            [1], [2], [3], [4], [5], [6, 1], [7, 3], [8, 6, 1, 1, 1, 0, 0, 0], [9, 4], [10, 2], [11], [12, 9], [13],
            [14, 6, 0, 0, 0, 0, 0, 1], [15, 1], [16, 3], [17],
        )
        answered = [
            [64], [22], [18], [2], [4], [6, 0, 0, 1, 0, 1, 1], [6, 0, 1, 0, 1, 0, 1], [0], [1], [1], [0], [8], [96],
            [6, 0, 0, 0, 1, 1, 1], [12], [20], [6],
        ]
        for n in NO_COUNTS_OF_STEPS:
            told = ask([START, 6], *asked, [START, n], *asked)
            self.assertEqual(told, [[6]] + answered + [[-22]] + answered)

    def test_comes_again(self):
        told = ask([START, 8], [KINDS], [START, 1], [KINDS], [KTH, 0], [START, 4], [KTH, 0], [START, 4], [WORDS])
        self.assertEqual(told, [[8], [6], [1], [0], [-2], [4], [4, 0, 0, 1, 1], [4], [16]])

    def test_comes_again_and_words_have_other_counts(self):
        told = ask([START, 4], [WHICH, 4, 1, 0, 0, 1], [START, 2], [WHICH, 4, 1, 0, 0, 1], [WHICH, 2, 1, 0])
        self.assertEqual(told, [[4], [0], [2], [-22], [0]])


class AheadOfAStart(unittest.TestCase):
    def test_every_other_call(self):
        for call in CALLS_BUT_START:
            self.assertEqual(ask(call), [[-11]])

    def test_wrong_arguments_too(self):
        for number in (KTH, KTH_ALL, SIDES, LEAVING, FIXED, NAMES, UPS):
            self.assertEqual(ask([number, LARGEST]), [[-11]])
        for number in (WHICH, NEXT):
            for call in ([number, 0], [number, 3, 7, 8, LARGEST], [number, 60] + [1] * 60):
                self.assertEqual(ask(call), [[-11]])

    def test_every_call_is_passed_whole(self):
        self.assertEqual(ask(*CALLS_BUT_START, [START, 5], [KINDS]), [[-11]] * 17 + [[5], [1]])

    def test_numbers_of_a_word_are_no_calls(self):
        self.assertEqual(ask([WHICH, 4, 0, 4, 0, 5], [WORDS]), [[-11], [-11]])
        self.assertEqual(ask([NEXT, 4, 0, 4, 0, 5], [STATE]), [[-11], [-11]])


class SeveralCalls(unittest.TestCase):
    def test_each_answer_has_its_count_ahead(self):
        calls = [0, 4, 1, 2, 3, 4, 5, 6, 0, 6, 1, 7, 1, 8, 4, 1, 1, 0, 0, 8, 4, 0, 1, 0, 1, 8, 1, 0]
        told = [1, 4, 1, 16, 1, 6, 1, 4, 1, 1, 1, 2, 5, 4, 0, 0, 1, 1, 1, -2, 5, 4, 0, 1, 0, 1, 1, 0, 1, -33, 1, -22]
        self.assertEqual(answers(calls), told)

    def test_an_empty_word_and_the_longest_one(self):
        for number in (WHICH, NEXT):
            told = ask([START, 3], [number, 0], [KINDS], [number, 60] + [0] * 60, [KINDS])
            self.assertEqual(told, [[3], [-22], [1], [-22], [1]])

    def test_two_hundred_calls(self):
        told = ask(*([[START, 8], [KTH_ALL, 7]] * 100))
        self.assertEqual(told, [[8], [8, 0, 1, 0, 1, 0, 1, 0, 1]] * 100)

    def test_two_hundred_calls_that_go_through_all_words(self):
        self.assertEqual(ask(*([[START, 8], [SUM]] * 100)), [[8], [256]] * 100)

    def test_the_longest_list(self):
        for number in (WHICH, NEXT):
            row = [number, 60] + [LARGEST] * 60
            self.assertEqual(ask(*([row] * 199), [START, 8]), [[-11]] * 199 + [[8]])
            self.assertEqual(ask([START, 8], *([row] * 199)), [[8]] + [[-22]] * 199)

    def test_a_refusal_changes_nothing_that_comes_behind(self):
        told = ask([START, 7], [KTH, 3], [KTH, 2], [WHICH, 7] + [9] * 7, [KTH, 2], [WHICH, 7] + [0] * 7, [KTH, 2])
        kind = [7, 0, 0, 0, 1, 0, 0, 1]
        self.assertEqual(told, [[7], [-2], kind, [-22], kind, [-33], kind])


class NothingKept(unittest.TestCase):
    # Each of the eighteen calls, and a start that is refused.
    calls = (
        0, 6, 1, 2, 3, 4, 5, 6, 1, 7, 0, 8, 6, 1, 1, 0, 1, 0, 0, 9, 4, 10, 2, 11, 12, 9, 13, 14, 6, 0, 0, 1, 1, 1, 1,
        15, 0, 16, 3, 17, 0, 9, 3,
    )

    def test_what_is_handed_in_is_as_before(self):
        handed = list(self.calls)
        answers(handed)
        self.assertEqual(handed, list(self.calls))

    def test_what_is_handed_in_is_not_changed_for_a_while_either(self):
        told = answers(list(self.calls))
        self.assertEqual(answers(NeverChanged(self.calls)), told)
        self.assertEqual(answers(NeverChanged([14, 3, 0, 0, 0] + list(self.calls))), [1, -11] + told)

    def test_the_same_answer_twice(self):
        handed = list(self.calls)
        self.assertEqual(answers(handed), answers(handed))

    def test_what_is_given_back_is_not_kept(self):
        first = answers([0, 4, 6, 0])
        first.clear()
        self.assertEqual(answers([0, 4, 6, 0]), [1, 4, 5, 4, 0, 0, 1, 1])

    def test_a_start_is_not_kept(self):
        answers([0, 8, 4])
        self.assertEqual(answers([4]), [1, -11])

    def test_only_whole_numbers_in_a_list(self):
        told = answers(list(self.calls))
        self.assertIs(type(told), list)
        self.assertEqual({type(number) for number in told}, {int})


def refuse(*given):
    raise AssertionError("what was handed in was changed")


class NeverChanged(list):
    append = extend = insert = pop = remove = reverse = sort = clear = refuse
    __setitem__ = __delitem__ = __iadd__ = __imul__ = refuse


if __name__ == "__main__":
    unittest.main()
