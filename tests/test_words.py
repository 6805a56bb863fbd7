"""What the words mean: ways, order, positions."""

import unittest

from layerkinds.words import (
    all_words, backwards, begun_later, closes, first_name, is_own, is_word, opposite, position_behind, positions, way,
)
from tests import reference


def steps(word):
    return [int(step) for step in word]


class Ways(unittest.TestCase):
    def test_later_opposite_backwards(self):
        self.assertEqual(begun_later(steps("00101"), 2), steps("10100"))
        self.assertEqual(opposite(steps("00101")), steps("11010"))
        self.assertEqual(backwards(steps("00101")), steps("10100"))

    def test_each_way_of_three_steps(self):
        made = ["001", "010", "100", "110", "101", "011", "100", "010", "001", "011", "101", "110"]
        self.assertEqual([way([0, 0, 1], t) for t in range(12)], [steps(word) for word in made])

    def test_later_comes_ahead_of_backwards(self):
        self.assertEqual(way(steps("001011"), 13), steps("011010"))
        self.assertEqual(way(steps("001011"), 19), steps("100101"))

    def test_ways_make_all_that_is_alike(self):
        for n in range(1, 9):
            for word in reference.words(n):
                made = {"".join(str(step) for step in way(steps(word), t)) for t in range(4 * n)}
                self.assertEqual(sorted(made), reference.names(word))
                self.assertEqual(first_name(steps(word)), steps(reference.names(word)[0]))


class Layers(unittest.TestCase):
    def test_positions(self):
        self.assertEqual(positions(steps("111")), [0, 1, 2])
        self.assertEqual(positions(steps("0001")), [0, 2, 1, 0])
        self.assertEqual(position_behind([]), 0)

    def test_every_word(self):
        for n in range(1, 9):
            self.assertEqual(all_words(n), [steps(word) for word in reference.words(n)])
            self.assertEqual([word for word in all_words(n) if closes(word)], list(map(steps, reference.closing(n))))
            self.assertEqual([word for word in all_words(n) if is_own(word)], list(map(steps, reference.own(n))))

    def test_what_is_a_word(self):
        self.assertTrue(is_word([0, 1], 2))
        for row in ([], [0], [0, 1, 0], [0, 2], [4294967295, 0]):
            self.assertFalse(is_word(row, 2))


if __name__ == "__main__":
    unittest.main()
