"""All eighteen calls mixed in one list, as the document told a second time answers them."""

import unittest

from layerkinds.stackings import answers
from tests.reference import LARGEST, NEXT, START, WHICH, closing, expected, split_answers, words

ALONE = (1, 2, 3, 4, 5, 11, 13, 17)
WRONG_STARTS = (0, 9, 60, LARGEST)


class Numbers:
    """Numbers that look mixed, but are the same each time."""

    def __init__(self, seed):
        self.seed = seed

    def below(self, end):
        self.seed = (self.seed * 1103515245 + 12345) % 2147483648
        return (self.seed >> 8) % end

    def one_of(self, rows):
        return rows[self.below(len(rows))]


def mixed_number(numbers):
    return numbers.one_of((numbers.below(4), numbers.below(9), numbers.below(36), LARGEST - numbers.below(3)))


def mixed_row(numbers, n):
    """Mostly words of n steps, closing ones among them; else another count, or numbers that are no steps."""
    choice = numbers.below(6)
    if choice < 2:
        return [int(step) for step in numbers.one_of(words(n))]
    if choice == 2 and closing(n):
        return [int(step) for step in numbers.one_of(closing(n))]
    if choice == 3:
        return [mixed_number(numbers) for step in range(n)]
    return [numbers.below(2) for step in range(numbers.one_of((n, n, n, numbers.below(10), numbers.below(61))))]


def mixed_call(numbers, n):
    """A call, and how many steps words have behind it."""
    number = numbers.below(18)
    if number == START:
        wanted = numbers.one_of((1, 2, 3, 4, 5, 6, 7, 8) + WRONG_STARTS)
        return [START, wanted], n if wanted in WRONG_STARTS else wanted
    if number in (WHICH, NEXT):
        row = mixed_row(numbers, n or 4)
        return [number, len(row)] + row, n
    if number in ALONE:
        return [number], n
    return [number, mixed_number(numbers)], n


def mixed_calls(seed, count):
    numbers = Numbers(seed)
    calls = []
    n = 0
    while len(calls) < count:
        call, n = mixed_call(numbers, n)
        calls.append(call)
    return calls


def handed_in(calls):
    return [number for call in calls for number in call]


class Mixed(unittest.TestCase):
    def test_lists_of_two_hundred(self):
        for seed in range(60):
            with self.subTest(seed=seed):
                calls = mixed_calls(seed, 200)
                self.assertEqual(split_answers(answers(handed_in(calls))), expected(calls))

    def test_shorter_lists(self):
        for seed in range(1000, 1200):
            with self.subTest(seed=seed):
                calls = mixed_calls(seed, 1 + seed % 40)
                self.assertEqual(split_answers(answers(handed_in(calls))), expected(calls))

    def test_behind_each_start(self):
        for n in range(1, 9):
            with self.subTest(n=n):
                calls = [[START, n]] + [call for call in mixed_calls(n, 220) if call[0] != START][:199]
                self.assertEqual(split_answers(answers(handed_in(calls))), expected(calls))

    def test_the_lists_have_all_that_they_are_to_have(self):
        calls = [call for seed in range(60) for call in mixed_calls(seed, 200)]
        self.assertEqual({call[0] for call in calls}, set(range(18)))
        self.assertEqual({call[1] for call in calls if call[0] == START}, set(range(10)) | {60, LARGEST})
        told = [answer for seed in range(60) for answer in expected(mixed_calls(seed, 200))]
        for number in (-2, -11, -22, -33):
            self.assertIn([number], told)
        kinds_of_answers = {(call[0], answer[0] if answer[0] < 0 else 0) for call, answer in zip(calls, told)}
        for refused in ((6, -2), (7, -2), (8, -22), (8, -33), (12, -22), (14, -22), (14, -33), (15, -2)):
            self.assertIn(refused, kinds_of_answers)
        for number in range(18):
            self.assertIn((number, 0), kinds_of_answers)

    def test_what_is_handed_in_is_as_before_and_answered_alike(self):
        for seed in range(20):
            handed = handed_in(mixed_calls(seed, 200))
            before = list(handed)
            first = answers(handed)
            self.assertEqual(handed, before)
            self.assertEqual(answers(handed), first)
            self.assertEqual(handed, before)

    def test_lists_between_change_nothing(self):
        lists = [handed_in(mixed_calls(seed, 50)) for seed in range(20)]
        first = [answers(handed) for handed in lists]
        self.assertEqual([answers(handed) for handed in reversed(lists)], first[::-1])

    def test_only_whole_numbers(self):
        for seed in range(20):
            told = answers(handed_in(mixed_calls(seed, 200)))
            self.assertIs(type(told), list)
            self.assertEqual({type(number) for number in told}, {int})


if __name__ == "__main__":
    unittest.main()
