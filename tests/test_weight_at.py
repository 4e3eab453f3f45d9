"""weight_at at ordinary inputs, at the edges of its own arguments, and against exact fractions."""

import unittest
from fractions import Fraction

from halvedpebbles.graph import weight_at
from plain import LARGER_CASES, configurations, directions, graphs

PATH_3 = [0, 1, 1, 2]
PATH_5 = [0, 1, 1, 2, 2, 3, 3, 4]
CYCLE_3 = [0, 1, 0, 2, 1, 2]
CYCLE_4 = [0, 1, 0, 3, 1, 2, 2, 3]
CYCLE_5 = [0, 1, 0, 4, 1, 2, 2, 3, 3, 4]
STAR_5 = [0, 1, 0, 2, 0, 3, 0, 4]
COMPLETE_5 = [0, 1, 0, 2, 0, 3, 0, 4, 1, 2, 1, 3, 1, 4, 2, 3, 2, 4, 3, 4]
TWO_PIECES = [0, 1, 2, 3]


def at_each_target(vertex_count, edges, pebbles):
    return [weight_at(vertex_count, target, edges, pebbles) for target in range(vertex_count)]


def plain_shares(vertex_count, target, edges):
    """What a pebble on each vertex weighs: half of the most that one on a neighbour weighs."""
    shares = [Fraction(0)] * vertex_count
    shares[target] = Fraction(1)
    for _ in range(vertex_count):
        for vertex, neighbour in directions(edges):
            shares[vertex] = max(shares[vertex], shares[neighbour] / 2)
    return shares


class Paths(unittest.TestCase):
    def test_one_edge_either_way(self):
        self.assertEqual(weight_at(2, 1, [0, 1], [1, 0]), [0, 1, 2])
        self.assertEqual(weight_at(2, 0, [0, 1], [0, 1]), [0, 1, 2])
        self.assertEqual(weight_at(2, 0, [0, 1], [3, 5]), [0, 11, 2])

    def test_three_vertices(self):
        self.assertEqual(at_each_target(3, PATH_3, [4, 0, 0]), [[0, 4, 1], [0, 2, 1], [0, 1, 1]])
        self.assertEqual(at_each_target(3, PATH_3, [3, 0, 0]), [[0, 3, 1], [0, 3, 2], [0, 3, 4]])
        self.assertEqual(at_each_target(3, PATH_3, [1, 2, 4]), [[0, 3, 1], [0, 9, 2], [0, 21, 4]])

    def test_five_vertices(self):
        expected = [[0, 27, 8], [0, 21, 4], [0, 27, 4], [0, 57, 8], [0, 81, 16]]
        self.assertEqual(at_each_target(5, PATH_5, [1, 2, 3, 4, 2]), expected)

    def test_one_pebble_from_each_vertex(self):
        one_pebble = [[1 if vertex == place else 0 for vertex in range(5)] for place in range(5)]
        answers = [weight_at(5, 4, PATH_5, pebbles) for pebbles in one_pebble]
        self.assertEqual(answers, [[0, 1, 16], [0, 1, 8], [0, 1, 4], [0, 1, 2], [0, 1, 1]])

    def test_the_longest_distance(self):
        expected = [
            [0, 0, 1], [0, 1, 16], [0, 1, 8], [0, 3, 16], [0, 1, 4], [0, 5, 16], [0, 3, 8], [0, 7, 16], [0, 1, 2],
            [0, 9, 16], [0, 5, 8], [0, 11, 16], [0, 3, 4],
        ]
        self.assertEqual([weight_at(5, 4, PATH_5, [pebbles, 0, 0, 0, 0]) for pebbles in range(13)], expected)
        self.assertEqual([weight_at(5, 0, PATH_5, [0, 0, 0, 0, pebbles]) for pebbles in range(13)], expected)

    def test_a_path_whose_numbers_do_not_rise(self):
        # 2-0-4-1-3
        edges = [0, 2, 0, 4, 1, 3, 1, 4]
        self.assertEqual(weight_at(5, 3, edges, [0, 0, 1, 0, 0]), [0, 1, 16])
        self.assertEqual(weight_at(5, 2, edges, [1, 1, 0, 1, 1]), [0, 15, 16])


class OtherGraphs(unittest.TestCase):
    def test_cycle(self):
        self.assertEqual(weight_at(3, 0, CYCLE_3, [1, 2, 3]), [0, 7, 2])
        self.assertEqual(at_each_target(4, CYCLE_4, [1, 1, 0, 0]), [[0, 3, 2], [0, 3, 2], [0, 3, 4], [0, 3, 4]])
        self.assertEqual(weight_at(4, 2, CYCLE_4, [4, 3, 0, 3]), [0, 4, 1])
        self.assertEqual(weight_at(5, 0, CYCLE_5, [0, 0, 2, 1, 1]), [0, 5, 4])

    def test_complete_graph(self):
        self.assertEqual(weight_at(5, 0, COMPLETE_5, [0, 3, 3, 3, 3]), [0, 6, 1])
        self.assertEqual(weight_at(5, 4, COMPLETE_5, [1, 1, 1, 0, 0]), [0, 3, 2])
        self.assertEqual(weight_at(5, 0, COMPLETE_5, [2, 1, 1, 1, 0]), [0, 7, 2])

    def test_star(self):
        self.assertEqual(at_each_target(5, STAR_5, [1, 4, 4, 2, 0])[:2], [[0, 6, 1], [0, 6, 1]])
        self.assertEqual(weight_at(5, 4, STAR_5, [0, 4, 4, 3, 0]), [0, 11, 4])
        self.assertEqual(weight_at(5, 4, STAR_5, [2, 1, 0, 0, 0]), [0, 5, 4])

    def test_one_vertex(self):
        for pebbles in range(13):
            self.assertEqual(weight_at(1, 0, [], [pebbles]), [0, pebbles, 1])

    def test_the_shortest_of_several_paths_counts(self):
        self.assertEqual(weight_at(3, 2, CYCLE_3, [1, 0, 0]), [0, 1, 2])
        self.assertEqual(weight_at(5, 3, CYCLE_5, [1, 0, 0, 0, 0]), [0, 1, 4])
        self.assertEqual(weight_at(5, 3, CYCLE_5, [0, 1, 0, 0, 0]), [0, 1, 4])
        self.assertEqual(weight_at(5, 4, [0, 1, 0, 4, 1, 2, 2, 3, 3, 4], [1, 0, 0, 0, 0]), [0, 1, 2])
        # From 0 to 4 by way of 1, 2 and 3, or by way of 3 alone.
        self.assertEqual(weight_at(5, 4, [0, 1, 0, 3, 1, 2, 2, 3, 3, 4], [1, 0, 0, 0, 0]), [0, 1, 4])
        self.assertEqual(weight_at(5, 0, [0, 1, 0, 3, 1, 2, 2, 3, 3, 4], [0, 0, 0, 0, 1]), [0, 1, 4])


class Pieces(unittest.TestCase):
    def test_pebbles_from_which_no_path_leads_do_not_count(self):
        self.assertEqual(at_each_target(4, TWO_PIECES, [3, 2, 5, 0]), [[0, 4, 1], [0, 7, 2], [0, 5, 1], [0, 5, 2]])
        self.assertEqual(weight_at(5, 2, [0, 1, 0, 2, 1, 2], [1, 0, 0, 5, 6]), [0, 1, 2])

    def test_no_path_from_any_pebble(self):
        self.assertEqual(weight_at(4, 3, TWO_PIECES, [12, 0, 0, 0]), [0, 0, 1])
        self.assertEqual(weight_at(4, 0, TWO_PIECES, [0, 0, 5, 7]), [0, 0, 1])
        self.assertEqual(weight_at(3, 2, [0, 1], [4, 4, 0]), [0, 0, 1])

    def test_without_edges(self):
        self.assertEqual(at_each_target(3, [], [0, 4, 8]), [[0, 0, 1], [0, 4, 1], [0, 8, 1]])
        self.assertEqual(at_each_target(5, [], [1, 2, 0, 4, 5])[2], [0, 0, 1])

    def test_no_pebbles(self):
        for vertex_count in range(1, 6):
            self.assertEqual(at_each_target(vertex_count, [], [0] * vertex_count), [[0, 0, 1]] * vertex_count)
        self.assertEqual(at_each_target(5, PATH_5, [0, 0, 0, 0, 0]), [[0, 0, 1]] * 5)
        self.assertEqual(at_each_target(5, COMPLETE_5, [0, 0, 0, 0, 0]), [[0, 0, 1]] * 5)


class LowestTerms(unittest.TestCase):
    def test_pebbles_on_the_target_count_whole(self):
        self.assertEqual(weight_at(3, 2, PATH_3, [0, 0, 5]), [0, 5, 1])
        self.assertEqual(weight_at(3, 2, PATH_3, [4, 0, 5]), [0, 6, 1])
        self.assertEqual(weight_at(3, 2, PATH_3, [1, 0, 5]), [0, 21, 4])

    def test_fractions_that_add_up_to_a_whole_number(self):
        self.assertEqual(weight_at(3, 2, PATH_3, [2, 1, 0]), [0, 1, 1])
        self.assertEqual(weight_at(3, 2, PATH_3, [2, 1, 1]), [0, 2, 1])
        self.assertEqual(weight_at(5, 4, PATH_5, [2, 1, 1, 1, 0]), [0, 1, 1])
        self.assertEqual(weight_at(5, 4, PATH_5, [2, 1, 1, 1, 7]), [0, 8, 1])
        self.assertEqual(weight_at(5, 4, PATH_5, [8, 4, 0, 0, 0]), [0, 1, 1])

    def test_fractions_that_do_not(self):
        self.assertEqual(weight_at(3, 2, PATH_3, [2, 0, 0]), [0, 1, 2])
        self.assertEqual(weight_at(3, 2, PATH_3, [6, 0, 0]), [0, 3, 2])
        self.assertEqual(weight_at(3, 2, PATH_3, [4, 1, 0]), [0, 3, 2])
        self.assertEqual(weight_at(5, 4, PATH_5, [1, 1, 1, 1, 1]), [0, 31, 16])
        self.assertEqual(weight_at(5, 4, PATH_5, [2, 2, 2, 2, 2]), [0, 31, 8])
        self.assertEqual(weight_at(5, 4, PATH_5, [4, 2, 0, 0, 0]), [0, 1, 2])


class AgainstExactFractions(unittest.TestCase):
    def held_against_fractions(self, vertex_count, edges, some_pebbles):
        for target in range(vertex_count):
            shares = plain_shares(vertex_count, target, edges)
            for pebbles in some_pebbles:
                expected = sum((share * number for share, number in zip(shares, pebbles)), Fraction(0))
                answer = weight_at(vertex_count, target, edges, pebbles)
                where = (vertex_count, target, edges, pebbles)
                self.assertEqual(answer, [0, expected.numerator, expected.denominator], where)

    def test_every_small_input(self):
        for vertex_count, most in ((1, 12), (2, 12), (3, 6), (4, 4)):
            some_pebbles = list(configurations(vertex_count, most))
            for edges in graphs(vertex_count):
                self.held_against_fractions(vertex_count, edges, some_pebbles)

    def test_every_graph_with_five_vertices(self):
        some_pebbles = list(configurations(5, 1)) + [[2, 4, 1, 2, 3], [1, 2, 0, 4, 5], [4, 0, 4, 0, 4]]
        for edges in graphs(5):
            self.held_against_fractions(5, edges, some_pebbles)

    def test_larger_inputs(self):
        for vertex_count, edges, pebbles in LARGER_CASES:
            self.held_against_fractions(vertex_count, list(edges), [list(pebbles)])


if __name__ == "__main__":
    unittest.main()
