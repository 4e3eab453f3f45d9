"""reachable_vertices at ordinary inputs and at the edges of what it is handed."""

import unittest

from halvedpebbles.graph import reachable_vertices

PATH_3 = [0, 1, 1, 2]
PATH_4 = [0, 1, 1, 2, 2, 3]
PATH_5 = [0, 1, 1, 2, 2, 3, 3, 4]
CYCLE_4 = [0, 1, 0, 3, 1, 2, 2, 3]
CYCLE_5 = [0, 1, 0, 4, 1, 2, 2, 3, 3, 4]
STAR_5 = [0, 1, 0, 2, 0, 3, 0, 4]
COMPLETE_4 = [0, 1, 0, 2, 0, 3, 1, 2, 1, 3, 2, 3]
COMPLETE_5 = [0, 1, 0, 2, 0, 3, 0, 4, 1, 2, 1, 3, 1, 4, 2, 3, 2, 4, 3, 4]
TWO_PIECES = [0, 1, 2, 3]


class Paths(unittest.TestCase):
    def test_the_graph_of_the_examples(self):
        self.assertEqual(reachable_vertices(3, [0, 1, 1, 2], [4, 0, 0]), [3, 0, 1, 2])
        self.assertEqual(reachable_vertices(3, [0, 1, 1, 2], [3, 0, 0]), [2, 0, 1])

    def test_one_edge_either_way(self):
        self.assertEqual(reachable_vertices(2, [0, 1], [2, 0]), [2, 0, 1])
        self.assertEqual(reachable_vertices(2, [0, 1], [0, 2]), [2, 0, 1])
        self.assertEqual(reachable_vertices(2, [0, 1], [1, 0]), [1, 0])
        self.assertEqual(reachable_vertices(2, [0, 1], [0, 1]), [1, 1])

    def test_each_further_vertex_doubles_the_price(self):
        answers = [reachable_vertices(5, PATH_5, [pebbles, 0, 0, 0, 0]) for pebbles in range(13)]
        expected = [[0], [1, 0]] + [[2, 0, 1]] * 2 + [[3, 0, 1, 2]] * 4 + [[4, 0, 1, 2, 3]] * 5
        self.assertEqual(answers, expected)
        self.assertEqual(reachable_vertices(5, PATH_5, [0, 0, 0, 0, 8]), [4, 1, 2, 3, 4])

    def test_the_last_vertex_takes_eleven_moves(self):
        self.assertEqual(reachable_vertices(5, PATH_5, [8, 4, 0, 0, 0]), [5, 0, 1, 2, 3, 4])
        self.assertEqual(reachable_vertices(5, PATH_5, [8, 3, 0, 0, 0]), [4, 0, 1, 2, 3])

    def test_pebbles_on_the_way(self):
        self.assertEqual(reachable_vertices(3, PATH_3, [2, 1, 0]), [3, 0, 1, 2])
        self.assertEqual(reachable_vertices(4, PATH_4, [2, 1, 1, 0]), [4, 0, 1, 2, 3])
        self.assertEqual(reachable_vertices(4, PATH_4, [2, 0, 1, 0]), [3, 0, 1, 2])

    def test_from_both_sides(self):
        self.assertEqual(reachable_vertices(3, PATH_3, [2, 0, 2]), [3, 0, 1, 2])
        self.assertEqual(reachable_vertices(5, PATH_5, [0, 2, 0, 2, 0]), [5, 0, 1, 2, 3, 4])
        self.assertEqual(reachable_vertices(5, PATH_5, [2, 0, 0, 0, 2]), [4, 0, 1, 3, 4])


class OtherGraphs(unittest.TestCase):
    def test_cycle(self):
        self.assertEqual(reachable_vertices(4, CYCLE_4, [4, 0, 0, 0]), [4, 0, 1, 2, 3])
        self.assertEqual(reachable_vertices(4, CYCLE_4, [3, 0, 0, 0]), [3, 0, 1, 3])
        self.assertEqual(reachable_vertices(4, CYCLE_4, [3, 1, 0, 0]), [4, 0, 1, 2, 3])
        self.assertEqual(reachable_vertices(5, CYCLE_5, [2, 0, 0, 0, 0]), [3, 0, 1, 4])

    def test_cycle_where_a_move_that_comes_no_nearer_is_needed(self):
        self.assertEqual(reachable_vertices(5, CYCLE_5, [0, 0, 2, 1, 1]), [5, 0, 1, 2, 3, 4])
        self.assertEqual(reachable_vertices(5, CYCLE_5, [0, 0, 2, 1, 0]), [4, 1, 2, 3, 4])

    def test_complete_graph(self):
        self.assertEqual(reachable_vertices(5, COMPLETE_5, [0, 0, 2, 0, 0]), [5, 0, 1, 2, 3, 4])
        self.assertEqual(reachable_vertices(5, COMPLETE_5, [0, 1, 1, 1, 0]), [3, 1, 2, 3])
        self.assertEqual(reachable_vertices(4, COMPLETE_4, [1, 1, 1, 0]), [3, 0, 1, 2])

    def test_star(self):
        self.assertEqual(reachable_vertices(5, STAR_5, [0, 2, 0, 0, 0]), [2, 0, 1])
        self.assertEqual(reachable_vertices(5, STAR_5, [0, 3, 1, 1, 0]), [4, 0, 1, 2, 3])
        self.assertEqual(reachable_vertices(5, STAR_5, [0, 2, 2, 0, 0]), [5, 0, 1, 2, 3, 4])

    def test_two_pieces(self):
        self.assertEqual(reachable_vertices(4, TWO_PIECES, [2, 0, 0, 2]), [4, 0, 1, 2, 3])
        self.assertEqual(reachable_vertices(4, TWO_PIECES, [2, 0, 1, 0]), [3, 0, 1, 2])

    def test_a_piece_without_pebbles(self):
        self.assertEqual(reachable_vertices(4, TWO_PIECES, [12, 0, 0, 0]), [2, 0, 1])
        self.assertEqual(reachable_vertices(4, TWO_PIECES, [0, 0, 0, 12]), [2, 2, 3])
        self.assertEqual(reachable_vertices(5, [0, 1, 0, 2, 1, 2], [6, 3, 3, 0, 0]), [3, 0, 1, 2])

    def test_without_edges(self):
        self.assertEqual(reachable_vertices(3, [], [0, 4, 8]), [2, 1, 2])
        self.assertEqual(reachable_vertices(5, [], [1, 0, 3, 0, 1]), [3, 0, 2, 4])

    def test_one_vertex(self):
        self.assertEqual(reachable_vertices(1, [], [0]), [0])
        for pebbles in range(1, 13):
            self.assertEqual(reachable_vertices(1, [], [pebbles]), [1, 0])


class FewPebbles(unittest.TestCase):
    def test_none_at_all(self):
        for vertex_count in range(1, 6):
            self.assertEqual(reachable_vertices(vertex_count, [], [0] * vertex_count), [0])
        self.assertEqual(reachable_vertices(3, PATH_3, [0, 0, 0]), [0])
        self.assertEqual(reachable_vertices(5, COMPLETE_5, [0, 0, 0, 0, 0]), [0])

    def test_one_pebble_and_no_move(self):
        self.assertEqual(reachable_vertices(3, PATH_3, [0, 1, 0]), [1, 1])
        self.assertEqual(reachable_vertices(5, COMPLETE_5, [0, 0, 0, 0, 1]), [1, 4])
        self.assertEqual(reachable_vertices(4, CYCLE_4, [1, 1, 1, 1]), [4, 0, 1, 2, 3])

    def test_near_but_not_reachable(self):
        self.assertEqual(reachable_vertices(3, PATH_3, [1, 0, 1]), [2, 0, 2])
        self.assertEqual(reachable_vertices(5, STAR_5, [0, 1, 1, 1, 1]), [4, 1, 2, 3, 4])
        self.assertEqual(reachable_vertices(5, STAR_5, [1, 0, 1, 1, 0]), [3, 0, 2, 3])

    def test_each_vertex_by_a_sequence_of_its_own(self):
        # No one configuration has a pebble on every vertex.
        self.assertEqual(reachable_vertices(5, STAR_5, [2, 0, 0, 0, 0]), [5, 0, 1, 2, 3, 4])
        self.assertEqual(reachable_vertices(4, CYCLE_4, [2, 0, 2, 0]), [4, 0, 1, 2, 3])

    def test_a_vertex_that_is_left_stays_reachable(self):
        self.assertEqual(reachable_vertices(3, PATH_3, [0, 2, 0]), [3, 0, 1, 2])
        self.assertEqual(reachable_vertices(2, [0, 1], [12, 0]), [2, 0, 1])


if __name__ == "__main__":
    unittest.main()
