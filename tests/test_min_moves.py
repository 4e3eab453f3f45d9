"""min_moves at ordinary inputs and at the edges of its own arguments."""

import unittest

from halvedpebbles.graph import min_moves

PATH_3 = [0, 1, 1, 2]
PATH_4 = [0, 1, 1, 2, 2, 3]
PATH_5 = [0, 1, 1, 2, 2, 3, 3, 4]
CYCLE_4 = [0, 1, 0, 3, 1, 2, 2, 3]
CYCLE_5 = [0, 1, 0, 4, 1, 2, 2, 3, 3, 4]
STAR_5 = [0, 1, 0, 2, 0, 3, 0, 4]
COMPLETE_4 = [0, 1, 0, 2, 0, 3, 1, 2, 1, 3, 2, 3]
COMPLETE_5 = [0, 1, 0, 2, 0, 3, 0, 4, 1, 2, 1, 3, 1, 4, 2, 3, 2, 4, 3, 4]
TWO_PIECES = [0, 1, 2, 3]


class Paths(unittest.TestCase):
    def test_one_edge_either_way(self):
        self.assertEqual(min_moves(2, 1, 1, [0, 1], [2, 0]), [1])
        self.assertEqual(min_moves(2, 0, 1, [0, 1], [0, 2]), [1])
        self.assertEqual(min_moves(2, 1, 1, [0, 1], [1, 0]), [-33])
        self.assertEqual(min_moves(2, 1, 6, [0, 1], [12, 0]), [6])

    def test_each_further_vertex_doubles_the_price(self):
        self.assertEqual(min_moves(4, 3, 1, PATH_4, [8, 0, 0, 0]), [7])
        self.assertEqual(min_moves(4, 3, 1, PATH_4, [7, 0, 0, 0]), [-33])
        self.assertEqual(min_moves(4, 0, 1, PATH_4, [0, 0, 0, 8]), [7])
        self.assertEqual(min_moves(5, 4, 1, PATH_5, [12, 0, 0, 0, 0]), [-33])
        self.assertEqual(min_moves(5, 3, 1, PATH_5, [12, 0, 0, 0, 0]), [7])
        self.assertEqual(min_moves(5, 2, 3, PATH_5, [12, 0, 0, 0, 0]), [9])

    def test_pebbles_on_the_way_save_moves(self):
        self.assertEqual(min_moves(3, 2, 1, PATH_3, [4, 1, 0]), [2])
        self.assertEqual(min_moves(3, 2, 1, PATH_3, [4, 2, 0]), [1])
        self.assertEqual(min_moves(4, 3, 1, PATH_4, [2, 1, 1, 0]), [3])

    def test_from_both_sides(self):
        self.assertEqual(min_moves(3, 1, 2, PATH_3, [2, 0, 2]), [2])
        self.assertEqual(min_moves(3, 1, 2, PATH_3, [3, 0, 1]), [-33])

    def test_every_pebble_but_one_is_needed(self):
        self.assertEqual(min_moves(5, 4, 1, PATH_5, [8, 4, 0, 0, 0]), [11])
        self.assertEqual(min_moves(5, 4, 1, PATH_5, [8, 3, 0, 0, 0]), [-33])


class OtherGraphs(unittest.TestCase):
    def test_cycle(self):
        self.assertEqual(min_moves(4, 2, 1, CYCLE_4, [4, 0, 0, 0]), [3])
        self.assertEqual(min_moves(4, 2, 1, CYCLE_4, [3, 1, 0, 0]), [2])
        self.assertEqual(min_moves(4, 2, 2, CYCLE_4, [0, 2, 0, 2]), [2])
        self.assertEqual(min_moves(4, 2, 1, CYCLE_4, [3, 0, 0, 0]), [-33])

    def test_cycle_where_a_move_that_comes_no_nearer_is_needed(self):
        self.assertEqual(min_moves(5, 0, 1, CYCLE_5, [0, 0, 2, 1, 1]), [3])

    def test_last_edge_closes_the_cycle(self):
        self.assertEqual(min_moves(5, 0, 1, CYCLE_5, [0, 0, 0, 0, 2]), [1])
        self.assertEqual(min_moves(5, 4, 1, CYCLE_5, [2, 0, 0, 0, 0]), [1])

    def test_complete_graph(self):
        self.assertEqual(min_moves(4, 3, 3, COMPLETE_4, [2, 2, 2, 0]), [3])
        self.assertEqual(min_moves(5, 0, 4, COMPLETE_5, [0, 3, 3, 3, 3]), [4])
        self.assertEqual(min_moves(5, 4, 6, COMPLETE_5, [6, 6, 0, 0, 0]), [6])
        self.assertEqual(min_moves(5, 4, 1, COMPLETE_5, [1, 1, 1, 1, 0]), [-33])

    def test_star(self):
        self.assertEqual(min_moves(5, 4, 1, STAR_5, [0, 2, 2, 0, 0]), [3])
        self.assertEqual(min_moves(5, 4, 1, STAR_5, [0, 3, 1, 1, 0]), [-33])
        self.assertEqual(min_moves(5, 4, 3, STAR_5, [0, 4, 4, 4, 0]), [9])

    def test_two_pieces(self):
        self.assertEqual(min_moves(4, 2, 1, TWO_PIECES, [12, 0, 0, 0]), [-33])
        self.assertEqual(min_moves(4, 1, 6, TWO_PIECES, [12, 0, 0, 0]), [6])
        self.assertEqual(min_moves(4, 3, 2, TWO_PIECES, [6, 0, 4, 0]), [2])
        self.assertEqual(min_moves(4, 3, 3, TWO_PIECES, [6, 0, 4, 0]), [-33])

    def test_without_edges(self):
        self.assertEqual(min_moves(3, 1, 4, [], [0, 4, 8]), [0])
        self.assertEqual(min_moves(3, 1, 5, [], [0, 4, 8]), [-33])

    def test_one_vertex(self):
        self.assertEqual(min_moves(1, 0, 12, [], [12]), [0])
        self.assertEqual(min_moves(1, 0, 13, [], [12]), [-33])
        self.assertEqual(min_moves(1, 0, 0, [], [0]), [0])
        self.assertEqual(min_moves(1, 0, 1, [], [0]), [-33])


class Counts(unittest.TestCase):
    def test_none_is_reached_without_a_move(self):
        self.assertEqual(min_moves(3, 2, 0, PATH_3, [4, 0, 0]), [0])
        self.assertEqual(min_moves(3, 2, 0, PATH_3, [0, 0, 0]), [0])
        self.assertEqual(min_moves(3, 2, 0, [], [1, 0, 0]), [0])

    def test_what_lies_on_the_target_needs_no_move(self):
        self.assertEqual(min_moves(3, 2, 1, PATH_3, [4, 0, 5]), [0])
        self.assertEqual(min_moves(3, 2, 5, PATH_3, [4, 0, 5]), [0])
        self.assertEqual(min_moves(3, 2, 6, PATH_3, [4, 0, 5]), [3])
        self.assertEqual(min_moves(3, 2, 7, PATH_3, [4, 0, 5]), [-33])

    def test_one_count_after_the_other(self):
        answers = [min_moves(3, 2, count, PATH_3, [4, 3, 1]) for count in range(5)]
        self.assertEqual(answers, [[0], [0], [1], [3], [-33]])

    def test_no_pebbles(self):
        self.assertEqual(min_moves(2, 0, 1, [0, 1], [0, 0]), [-33])

    def test_largest_count_and_one_more(self):
        self.assertEqual(min_moves(3, 2, 3, PATH_3, [12, 0, 0]), [9])
        self.assertEqual(min_moves(3, 2, 4, PATH_3, [12, 0, 0]), [-33])
        self.assertEqual(min_moves(2, 0, 12, [0, 1], [12, 0]), [0])
        self.assertEqual(min_moves(2, 0, 13, [0, 1], [12, 0]), [-33])

    def test_counts_beyond_all_pebbles(self):
        for count in (14, 127, 128, 255, 256, 65536, 2147483648, 4294967294, 4294967295):
            self.assertEqual(min_moves(3, 2, count, PATH_3, [12, 0, 0]), [-33])
            self.assertEqual(min_moves(1, 0, count, [], [12]), [-33])


if __name__ == "__main__":
    unittest.main()
