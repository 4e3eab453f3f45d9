"""count_configurations at ordinary inputs, at the largest ones, and against plain searches over sets."""

import unittest

from halvedpebbles.graph import count_configurations
from plain import LARGER_CASES, all_sequences, configurations, graphs, nonempty_levels

PATH_3 = [0, 1, 1, 2]
PATH_5 = [0, 1, 1, 2, 2, 3, 3, 4]
CYCLE_3 = [0, 1, 0, 2, 1, 2]
CYCLE_4 = [0, 1, 0, 3, 1, 2, 2, 3]
STAR_5 = [0, 1, 0, 2, 0, 3, 0, 4]
COMPLETE_5 = [0, 1, 0, 2, 0, 3, 0, 4, 1, 2, 1, 3, 1, 4, 2, 3, 2, 4, 3, 4]
TWO_PIECES = [0, 1, 2, 3]


class NoPossibleMove(unittest.TestCase):
    def test_no_pebbles(self):
        for vertex_count in range(1, 6):
            self.assertEqual(count_configurations(vertex_count, [], [0] * vertex_count), [1, 1])
        self.assertEqual(count_configurations(3, PATH_3, [0, 0, 0]), [1, 1])
        self.assertEqual(count_configurations(5, COMPLETE_5, [0, 0, 0, 0, 0]), [1, 1])

    def test_one_vertex(self):
        for pebbles in range(13):
            self.assertEqual(count_configurations(1, [], [pebbles]), [1, 1])

    def test_one_pebble_on_each_vertex(self):
        self.assertEqual(count_configurations(2, [0, 1], [1, 1]), [1, 1])
        self.assertEqual(count_configurations(3, PATH_3, [1, 0, 1]), [1, 1])
        self.assertEqual(count_configurations(5, COMPLETE_5, [1, 1, 1, 1, 1]), [1, 1])

    def test_no_edges(self):
        self.assertEqual(count_configurations(3, [], [0, 4, 8]), [1, 1])
        self.assertEqual(count_configurations(5, [], [12, 0, 0, 0, 0]), [1, 1])

    def test_no_edge_at_the_pebbles(self):
        self.assertEqual(count_configurations(3, [0, 1], [0, 0, 12]), [1, 1])
        self.assertEqual(count_configurations(4, TWO_PIECES, [1, 1, 1, 0]), [1, 1])


class OneInEachLevel(unittest.TestCase):
    def test_one_edge(self):
        self.assertEqual(count_configurations(2, [0, 1], [2, 0]), [2, 2])
        self.assertEqual(count_configurations(2, [0, 1], [0, 2]), [2, 2])
        self.assertEqual(count_configurations(2, [0, 1], [3, 0]), [2, 2])
        # 4 0, 2 1, 0 2, 1 0
        self.assertEqual(count_configurations(2, [0, 1], [4, 0]), [4, 4])
        # 5 0, 3 1, 1 2, 2 0, 0 1
        self.assertEqual(count_configurations(2, [0, 1], [5, 0]), [5, 5])

    def test_path(self):
        # 3 0 0, 1 1 0
        self.assertEqual(count_configurations(3, PATH_3, [3, 0, 0]), [2, 2])


class SeveralInALevel(unittest.TestCase):
    def test_path(self):
        # 0 2 0; 1 0 0 and 0 0 1
        self.assertEqual(count_configurations(3, PATH_3, [0, 2, 0]), [2, 3])
        # 2 1 0; 0 2 0; 1 0 0 and 0 0 1
        self.assertEqual(count_configurations(3, PATH_3, [2, 1, 0]), [3, 4])
        # 4 0 0; 2 1 0; 0 2 0; 1 0 0 and 0 0 1
        self.assertEqual(count_configurations(3, PATH_3, [4, 0, 0]), [4, 5])

    def test_one_edge(self):
        # 2 2; 0 3 and 3 0; 1 1 by either way
        self.assertEqual(count_configurations(2, [0, 1], [2, 2]), [3, 4])

    def test_cycle(self):
        self.assertEqual(count_configurations(3, CYCLE_3, [2, 0, 0]), [2, 3])
        self.assertEqual(count_configurations(4, CYCLE_4, [3, 0, 0, 0]), [2, 3])

    def test_star(self):
        self.assertEqual(count_configurations(5, STAR_5, [2, 0, 0, 0, 0]), [2, 5])
        # 3 1 1 1 1; four like 1 2 1 1 1; four like 2 0 1 1 1; 0 1 1 1 1 and twelve like 0 0 2 1 1; six like 1 0 0 1 1
        self.assertEqual(count_configurations(5, STAR_5, [3, 1, 1, 1, 1]), [5, 28])

    def test_complete_graph(self):
        self.assertEqual(count_configurations(5, COMPLETE_5, [0, 0, 2, 0, 0]), [2, 5])


class ReachedInSeveralWays(unittest.TestCase):
    def test_in_two_pieces(self):
        # 2 0 2 0; 0 1 2 0 and 2 0 0 1; 0 1 0 1 by either way
        self.assertEqual(count_configurations(4, TWO_PIECES, [2, 0, 2, 0]), [3, 4])

    def test_from_both_sides(self):
        # 2 0 2; 0 1 2 and 2 1 0; 0 2 0 by either way; 1 0 0 and 0 0 1
        self.assertEqual(count_configurations(3, PATH_3, [2, 0, 2]), [4, 6])

    def test_by_different_neighbours(self):
        # 4 0 0 0; 2 1 0 0, 2 0 0 1; 0 2 0 0, 0 1 0 1, 0 0 0 2; 1 0 0 0, 0 0 1 0
        self.assertEqual(count_configurations(4, CYCLE_4, [4, 0, 0, 0]), [4, 8])


class Largest(unittest.TestCase):
    def test_twelve_levels(self):
        self.assertEqual(count_configurations(2, [0, 1], [8, 4]), [12, 24])
        self.assertEqual(count_configurations(2, [0, 1], [11, 1]), [12, 20])
        self.assertEqual(count_configurations(5, PATH_5, [8, 4, 0, 0, 0]), [12, 73])
        for edges, pebbles in (([0, 1], [8, 4]), ([0, 1], [11, 1]), (PATH_5, [8, 4, 0, 0, 0])):
            levels = nonempty_levels(edges, pebbles)
            self.assertEqual(count_configurations(len(pebbles), edges, pebbles), [12, sum(map(len, levels))])

    def test_one_level_fewer(self):
        self.assertEqual(count_configurations(2, [0, 1], [12, 0])[0], 11)
        self.assertEqual(count_configurations(2, [0, 1], [10, 1])[0], 10)

    def test_the_most_configurations(self):
        # With more edges no fewer can be reached, so the complete graph has the most for each row of pebbles.
        self.assertEqual(count_configurations(5, COMPLETE_5, [4, 2, 2, 2, 2]), [12, 1738])
        self.assertEqual(count_configurations(5, COMPLETE_5, [2, 2, 2, 2, 4]), [12, 1738])
        levels = nonempty_levels(COMPLETE_5, [4, 2, 2, 2, 2])
        self.assertEqual((len(levels), sum(map(len, levels))), (12, 1738))

    def test_the_most_are_the_most(self):
        for pebbles in configurations(5, 12):
            if pebbles == sorted(pebbles):
                level_count, total = count_configurations(5, COMPLETE_5, pebbles)
                self.assertLessEqual(level_count, 12, pebbles)
                self.assertLessEqual(total, 1738, pebbles)


class AgainstPlainSearches(unittest.TestCase):
    def test_against_every_sequence(self):
        for vertex_count, most in ((1, 6), (2, 6), (3, 5), (4, 4)):
            for edges in graphs(vertex_count):
                for pebbles in configurations(vertex_count, most):
                    found = {(len(sequence), end) for sequence, end in all_sequences(edges, pebbles)}
                    expected = [1 + max(length for length, _ in found), len(found)]
                    answer = count_configurations(vertex_count, edges, pebbles)
                    self.assertEqual(answer, expected, (vertex_count, edges, pebbles))

    def held_against_levels(self, vertex_count, edges, pebbles):
        levels = nonempty_levels(edges, pebbles)
        expected = [len(levels), sum(len(level) for level in levels)]
        self.assertEqual(count_configurations(vertex_count, edges, pebbles), expected, (vertex_count, edges, pebbles))

    def test_against_levels_as_sets(self):
        for vertex_count, most in ((2, 12), (3, 8), (4, 5)):
            for edges in graphs(vertex_count):
                for pebbles in configurations(vertex_count, most):
                    self.held_against_levels(vertex_count, edges, pebbles)

    def test_every_graph_with_five_vertices(self):
        for edges in graphs(5):
            for pebbles in ([2, 0, 2, 0, 3], [0, 5, 0, 1, 0], [1, 2, 2, 1, 0]):
                self.held_against_levels(5, edges, pebbles)

    def test_larger_inputs(self):
        for vertex_count, edges, pebbles in LARGER_CASES:
            self.held_against_levels(vertex_count, list(edges), list(pebbles))


if __name__ == "__main__":
    unittest.main()
