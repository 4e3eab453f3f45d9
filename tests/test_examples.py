"""The document's five examples, in their order."""

import unittest

from halvedpebbles.graph import apply_moves, min_moves, shortest_sequence, weight_at


class Examples(unittest.TestCase):
    def test_first_row(self):
        self.assertEqual(min_moves(3, 2, 1, [0, 1, 1, 2], [4, 0, 0]), [3])

    def test_second_row(self):
        self.assertEqual(shortest_sequence(3, 2, 1, [0, 1, 1, 2], [4, 0, 0]), [3, 0, 1, 0, 1, 1, 2])

    def test_third_row(self):
        self.assertEqual(weight_at(3, 2, [0, 1, 1, 2], [4, 0, 0]), [0, 1, 1])

    def test_fourth_row(self):
        self.assertEqual(apply_moves(3, [0, 1, 1, 2], [4, 0, 0], [0, 1, 1, 2]), [1, 2, 1, 0])

    def test_fifth_row(self):
        self.assertEqual(min_moves(3, 2, 1, [0, 1, 1, 2], [3, 0, 0]), [-33])


if __name__ == "__main__":
    unittest.main()
