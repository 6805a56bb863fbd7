"""What the words mean: ways, order, positions."""

import unittest

from layerkinds.words import (
    all_words, all_ways, backwards, begun_later, closes, count_leaving_ways, count_like_neighbours, first_name,
    is_handed, is_own, is_word, names_of, opposite, position_behind, positions, way,
)
from tests import reference


def steps(word):
    return [int(step) for step in word]


class Ways(unittest.TestCase):
    def test_later_opposite_backwards(self):
        self.assertEqual(begun_later(steps("00101"), 2), steps("10100"))
        self.assertEqual(opposite(steps("00101")), steps("11010"))
        self.assertEqual(backwards(steps("00101")), steps("10100"))

    def test_each_way_of_three_steps(self):
        made = ["001", "010", "100", "110", "101", "011", "100", "010", "001", "011", "101", "110"]
        self.assertEqual([way([0, 0, 1], t) for t in range(12)], [steps(word) for word in made])

    def test_later_comes_ahead_of_backwards(self):
        self.assertEqual(way(steps("001011"), 13), steps("011010"))
        self.assertEqual(way(steps("001011"), 19), steps("100101"))

    def test_ways_make_all_that_is_alike(self):
        for n in range(1, 9):
            for word in reference.words(n):
                made = {"".join(str(step) for step in way(steps(word), t)) for t in range(4 * n)}
                self.assertEqual(sorted(made), reference.names(word))
                self.assertEqual(first_name(steps(word)), steps(reference.names(word)[0]))

    def test_each_way_of_each_word(self):
        for n in range(1, 9):
            for word in reference.words(n):
                made = [steps(reference.way(word, t)) for t in range(4 * n)]
                self.assertEqual(all_ways(steps(word)), made)

    def test_names_each_once_in_order(self):
        for n in range(1, 9):
            for word in reference.words(n):
                told = [list(name) for name in names_of(steps(word))]
                self.assertEqual(told, [steps(name) for name in reference.names(word)])

    def test_ways_that_leave(self):
        for n in range(1, 9):
            for word in reference.words(n):
                self.assertEqual(count_leaving_ways(steps(word)), len(reference.ways_leaving(word)))

    def test_handed(self):
        # No kind of up to eight layers is handed, so words that don't close tell whether one is.
        self.assertTrue(is_handed(steps("0001011")))
        self.assertTrue(is_handed(steps("0001101")))
        self.assertTrue(is_handed(steps("00001011")))
        self.assertTrue(is_handed(steps("000100111011")))  # later and opposite makes it itself, backwards nothing does
        self.assertFalse(is_handed(steps("0001001")))  # backwards makes it itself
        self.assertFalse(is_handed(steps("001011")))  # backwards and opposite makes it itself
        self.assertFalse(is_handed(steps("0011")))  # both do
        for n in range(1, 9):
            for word in reference.words(n):
                self.assertEqual(is_handed(steps(word)), reference.handed(word))


class Layers(unittest.TestCase):
    def test_positions(self):
        self.assertEqual(positions(steps("111")), [0, 1, 2])
        self.assertEqual(positions(steps("0001")), [0, 2, 1, 0])
        self.assertEqual(position_behind([]), 0)

    def test_like_neighbours(self):
        # The last step is the one before the first.
        self.assertEqual([count_like_neighbours(steps(word)) for word in ("0", "11", "01", "0011", "0110", "0101")],
                         [0, 0, 2, 2, 2, 4])
        for n in range(1, 9):
            for word in reference.words(n):
                self.assertEqual(count_like_neighbours(steps(word)), reference.sides(word))

    def test_every_word(self):
        for n in range(1, 9):
            self.assertEqual(all_words(n), [steps(word) for word in reference.words(n)])
            self.assertEqual([word for word in all_words(n) if closes(word)], list(map(steps, reference.closing(n))))
            self.assertEqual([word for word in all_words(n) if is_own(word)], list(map(steps, reference.own(n))))

    def test_what_is_a_word(self):
        self.assertTrue(is_word([0, 1], 2))
        for row in ([], [0], [0, 1, 0], [0, 2], [4294967295, 0]):
            self.assertFalse(is_word(row, 2))


if __name__ == "__main__":
    unittest.main()
