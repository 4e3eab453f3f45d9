"""max_pebbles_at at ordinary inputs and at the edges of its own arguments."""

import unittest

from halvedpebbles.graph import max_pebbles_at

PATH_3 = [0, 1, 1, 2]
PATH_5 = [0, 1, 1, 2, 2, 3, 3, 4]
CYCLE_4 = [0, 1, 0, 3, 1, 2, 2, 3]
CYCLE_5 = [0, 1, 0, 4, 1, 2, 2, 3, 3, 4]
STAR_5 = [0, 1, 0, 2, 0, 3, 0, 4]
COMPLETE_5 = [0, 1, 0, 2, 0, 3, 0, 4, 1, 2, 1, 3, 1, 4, 2, 3, 2, 4, 3, 4]
TWO_PIECES = [0, 1, 2, 3]


class Paths(unittest.TestCase):
    def test_the_graph_of_the_examples(self):
        self.assertEqual(max_pebbles_at(3, 2, [0, 1, 1, 2], [4, 0, 0]), [1])
        self.assertEqual(max_pebbles_at(3, 2, [0, 1, 1, 2], [3, 0, 0]), [0])

    def test_one_edge_either_way(self):
        self.assertEqual(max_pebbles_at(2, 1, [0, 1], [12, 0]), [6])
        self.assertEqual(max_pebbles_at(2, 0, [0, 1], [0, 12]), [6])
        self.assertEqual(max_pebbles_at(2, 1, [0, 1], [11, 1]), [6])
        self.assertEqual(max_pebbles_at(2, 1, [0, 1], [1, 0]), [0])

    def test_half_is_lost_at_each_edge(self):
        answers = [max_pebbles_at(5, target, PATH_5, [12, 0, 0, 0, 0]) for target in range(5)]
        self.assertEqual(answers, [[12], [6], [3], [1], [0]])

    def test_pebbles_on_the_way_make_up_for_odd_ones(self):
        self.assertEqual(max_pebbles_at(3, 2, PATH_3, [2, 1, 0]), [1])
        self.assertEqual(max_pebbles_at(3, 2, PATH_3, [3, 1, 0]), [1])
        self.assertEqual(max_pebbles_at(5, 4, PATH_5, [8, 4, 0, 0, 0]), [1])
        self.assertEqual(max_pebbles_at(5, 4, PATH_5, [7, 4, 0, 0, 0]), [0])

    def test_from_both_sides(self):
        self.assertEqual(max_pebbles_at(3, 1, PATH_3, [6, 0, 6]), [6])
        self.assertEqual(max_pebbles_at(3, 1, PATH_3, [5, 1, 5]), [5])


class OtherGraphs(unittest.TestCase):
    def test_cycle(self):
        self.assertEqual(max_pebbles_at(4, 2, CYCLE_4, [12, 0, 0, 0]), [3])
        self.assertEqual(max_pebbles_at(4, 2, CYCLE_4, [4, 3, 0, 3]), [4])
        self.assertEqual(max_pebbles_at(4, 2, CYCLE_4, [3, 3, 0, 3]), [3])
        self.assertEqual(max_pebbles_at(4, 2, CYCLE_4, [3, 1, 0, 1]), [1])

    def test_cycle_where_a_move_that_comes_no_nearer_is_needed(self):
        self.assertEqual(max_pebbles_at(5, 0, CYCLE_5, [0, 0, 2, 1, 1]), [1])
        self.assertEqual(max_pebbles_at(5, 0, CYCLE_5, [0, 0, 1, 1, 1]), [0])

    def test_complete_graph(self):
        self.assertEqual(max_pebbles_at(5, 0, COMPLETE_5, [0, 3, 3, 3, 3]), [4])
        self.assertEqual(max_pebbles_at(5, 4, COMPLETE_5, [6, 6, 0, 0, 0]), [6])
        self.assertEqual(max_pebbles_at(5, 4, COMPLETE_5, [1, 1, 1, 1, 0]), [0])
        self.assertEqual(max_pebbles_at(5, 2, COMPLETE_5, [3, 3, 2, 2, 2]), [6])

    def test_star(self):
        self.assertEqual(max_pebbles_at(5, 0, STAR_5, [0, 3, 3, 3, 3]), [4])
        self.assertEqual(max_pebbles_at(5, 4, STAR_5, [0, 4, 4, 4, 0]), [3])

    def test_two_pieces(self):
        self.assertEqual(max_pebbles_at(4, 2, TWO_PIECES, [12, 0, 0, 0]), [0])
        self.assertEqual(max_pebbles_at(4, 1, TWO_PIECES, [12, 0, 0, 0]), [6])
        self.assertEqual(max_pebbles_at(4, 3, TWO_PIECES, [6, 0, 4, 1]), [3])

    def test_without_edges(self):
        answers = [max_pebbles_at(3, target, [], [0, 4, 8]) for target in range(3)]
        self.assertEqual(answers, [[0], [4], [8]])

    def test_one_vertex(self):
        for pebbles in range(13):
            self.assertEqual(max_pebbles_at(1, 0, [], [pebbles]), [pebbles])


class OwnPebbles(unittest.TestCase):
    def test_they_count(self):
        self.assertEqual(max_pebbles_at(3, 2, PATH_3, [4, 0, 5]), [6])
        self.assertEqual(max_pebbles_at(3, 2, PATH_3, [3, 0, 5]), [5])

    def test_they_need_not_be_moved_away(self):
        self.assertEqual(max_pebbles_at(2, 0, [0, 1], [12, 0]), [12])
        self.assertEqual(max_pebbles_at(2, 0, [0, 1], [11, 1]), [11])

    def test_no_pebbles(self):
        self.assertEqual(max_pebbles_at(2, 0, [0, 1], [0, 0]), [0])


if __name__ == "__main__":
    unittest.main()
