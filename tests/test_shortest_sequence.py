"""shortest_sequence at ordinary inputs and at the edges of its own arguments."""

import unittest

from halvedpebbles.graph import shortest_sequence

BIGGEST = 4294967295
PATH_3 = [0, 1, 1, 2]
PATH_4 = [0, 1, 1, 2, 2, 3]
PATH_5 = [0, 1, 1, 2, 2, 3, 3, 4]
CYCLE_4 = [0, 1, 0, 3, 1, 2, 2, 3]
CYCLE_5 = [0, 1, 0, 4, 1, 2, 2, 3, 3, 4]
STAR_5 = [0, 1, 0, 2, 0, 3, 0, 4]
COMPLETE_4 = [0, 1, 0, 2, 0, 3, 1, 2, 1, 3, 2, 3]
COMPLETE_5 = [0, 1, 0, 2, 0, 3, 0, 4, 1, 2, 1, 3, 1, 4, 2, 3, 2, 4, 3, 4]
TWO_PIECES = [0, 1, 2, 3]


class Graphs(unittest.TestCase):
    def test_one_edge_either_way(self):
        self.assertEqual(shortest_sequence(2, 1, 1, [0, 1], [2, 0]), [1, 0, 1])
        self.assertEqual(shortest_sequence(2, 0, 1, [0, 1], [0, 2]), [1, 1, 0])
        self.assertEqual(shortest_sequence(2, 1, 1, [0, 1], [1, 0]), [-33])

    def test_path(self):
        self.assertEqual(shortest_sequence(3, 0, 1, PATH_3, [0, 0, 4]), [3, 2, 1, 2, 1, 1, 0])
        self.assertEqual(shortest_sequence(3, 2, 1, PATH_3, [4, 1, 0]), [2, 0, 1, 1, 2])
        self.assertEqual(shortest_sequence(3, 1, 2, PATH_3, [2, 0, 2]), [2, 0, 1, 2, 1])
        self.assertEqual(shortest_sequence(4, 3, 1, PATH_4, [2, 1, 1, 0]), [3, 0, 1, 1, 2, 2, 3])
        self.assertEqual(shortest_sequence(3, 2, 1, PATH_3, [3, 0, 0]), [-33])

    def test_cycle(self):
        self.assertEqual(shortest_sequence(4, 2, 1, CYCLE_4, [3, 1, 0, 0]), [2, 0, 1, 1, 2])
        self.assertEqual(shortest_sequence(4, 2, 1, CYCLE_4, [3, 0, 0, 1]), [2, 0, 3, 3, 2])
        self.assertEqual(shortest_sequence(5, 0, 1, CYCLE_5, [0, 0, 0, 0, 2]), [1, 4, 0])
        self.assertEqual(shortest_sequence(5, 0, 1, CYCLE_5, [0, 0, 2, 1, 1]), [3, 2, 3, 3, 4, 4, 0])
        self.assertEqual(shortest_sequence(4, 2, 1, CYCLE_4, [3, 0, 0, 0]), [-33])

    def test_complete_graph(self):
        self.assertEqual(shortest_sequence(4, 3, 3, COMPLETE_4, [2, 2, 2, 0]), [3, 0, 3, 1, 3, 2, 3])
        self.assertEqual(shortest_sequence(5, 0, 4, COMPLETE_5, [0, 3, 3, 3, 3]), [4, 1, 0, 2, 0, 3, 0, 4, 0])
        self.assertEqual(shortest_sequence(5, 4, 1, COMPLETE_5, [1, 1, 1, 1, 0]), [-33])

    def test_star(self):
        self.assertEqual(shortest_sequence(5, 4, 1, STAR_5, [0, 2, 2, 0, 0]), [3, 1, 0, 2, 0, 0, 4])
        self.assertEqual(shortest_sequence(5, 4, 1, STAR_5, [0, 3, 1, 1, 0]), [-33])

    def test_two_pieces(self):
        self.assertEqual(shortest_sequence(4, 3, 2, TWO_PIECES, [6, 0, 4, 0]), [2, 2, 3, 2, 3])
        self.assertEqual(shortest_sequence(4, 0, 1, TWO_PIECES, [0, 2, 4, 4]), [1, 1, 0])
        self.assertEqual(shortest_sequence(4, 2, 1, TWO_PIECES, [12, 0, 0, 0]), [-33])

    def test_without_edges(self):
        self.assertEqual(shortest_sequence(3, 1, 4, [], [0, 4, 8]), [0])
        self.assertEqual(shortest_sequence(3, 1, 5, [], [0, 4, 8]), [-33])

    def test_one_vertex(self):
        self.assertEqual(shortest_sequence(1, 0, 12, [], [12]), [0])
        self.assertEqual(shortest_sequence(1, 0, 13, [], [12]), [-33])
        self.assertEqual(shortest_sequence(1, 0, 0, [], [0]), [0])
        self.assertEqual(shortest_sequence(1, 0, 1, [], [0]), [-33])


class FirstOfSeveral(unittest.TestCase):
    def test_they_differ_in_the_target_of_the_first_move(self):
        # By way of vertex 3 it takes as many moves.
        self.assertEqual(shortest_sequence(4, 2, 1, CYCLE_4, [4, 0, 0, 0]), [3, 0, 1, 0, 1, 1, 2])
        self.assertEqual(shortest_sequence(4, 2, 1, CYCLE_4, [2, 1, 0, 1]), [2, 0, 1, 1, 2])
        self.assertEqual(shortest_sequence(5, 4, 1, [0, 2, 0, 3, 2, 4, 3, 4], [2, 0, 1, 1, 0]), [2, 0, 2, 2, 4])

    def test_they_differ_in_the_source_of_the_first_move(self):
        self.assertEqual(shortest_sequence(4, 3, 1, COMPLETE_4, [2, 2, 2, 0]), [1, 0, 3])
        self.assertEqual(shortest_sequence(4, 3, 1, COMPLETE_4, [1, 2, 2, 0]), [1, 1, 3])
        self.assertEqual(shortest_sequence(4, 0, 1, COMPLETE_4, [0, 1, 3, 3]), [1, 2, 0])
        self.assertEqual(shortest_sequence(4, 2, 1, CYCLE_4, [0, 5, 0, 7]), [1, 1, 2])

    def test_they_differ_in_the_target_of_a_later_move(self):
        edges = [0, 1, 1, 2, 1, 3, 2, 4, 3, 4]
        self.assertEqual(shortest_sequence(5, 4, 1, edges, [2, 1, 1, 1, 0]), [3, 0, 1, 1, 2, 2, 4])
        self.assertEqual(shortest_sequence(5, 4, 1, edges, [2, 3, 0, 1, 0]), [2, 1, 3, 3, 4])
        self.assertEqual(shortest_sequence(5, 4, 1, edges, [4, 1, 1, 0, 0]), [3, 0, 1, 1, 2, 2, 4])

    def test_they_differ_in_the_source_of_a_later_move(self):
        edges = [1, 4, 2, 4, 3, 4]
        self.assertEqual(shortest_sequence(5, 4, 2, edges, [0, 2, 2, 2, 0]), [2, 1, 4, 2, 4])
        self.assertEqual(shortest_sequence(5, 4, 2, edges, [0, 4, 2, 2, 0]), [2, 1, 4, 1, 4])
        self.assertEqual(shortest_sequence(5, 4, 3, edges, [0, 2, 6, 2, 0]), [3, 1, 4, 2, 4, 2, 4])

    def test_the_same_moves_in_another_order(self):
        self.assertEqual(shortest_sequence(3, 2, 2, PATH_3, [4, 2, 0]), [4, 0, 1, 0, 1, 1, 2, 1, 2])
        self.assertEqual(shortest_sequence(3, 0, 2, PATH_3, [0, 2, 4]), [4, 1, 0, 2, 1, 2, 1, 1, 0])
        edges = [0, 1, 1, 4, 2, 4, 3, 4]
        self.assertEqual(shortest_sequence(5, 4, 3, edges, [2, 1, 2, 2, 0]), [4, 0, 1, 1, 4, 2, 4, 3, 4])

    def test_the_source_counts_ahead_of_the_place_of_the_edge(self):
        # The edge 0-1 stands ahead of 0-3, but the move 0 to 3 ahead of 1 to 0.
        self.assertEqual(shortest_sequence(4, 3, 2, CYCLE_4, [3, 2, 0, 0]), [3, 0, 3, 1, 0, 0, 3])
        self.assertEqual(shortest_sequence(4, 3, 1, CYCLE_4, [2, 2, 1, 0]), [1, 0, 3])
        self.assertEqual(shortest_sequence(3, 0, 2, [0, 1, 0, 2], [0, 2, 2]), [2, 1, 0, 2, 0])

    def test_the_source_counts_ahead_of_the_target(self):
        self.assertEqual(shortest_sequence(5, 1, 2, [0, 4, 1, 3, 1, 4], [2, 0, 0, 2, 1]), [3, 0, 4, 3, 1, 4, 1])
        self.assertEqual(shortest_sequence(4, 1, 2, [0, 3, 1, 2, 1, 3], [2, 0, 2, 1]), [3, 0, 3, 2, 1, 3, 1])

    def test_where_the_other_pebbles_end_up_does_not_count(self):
        edges = [0, 3, 0, 4, 1, 2, 2, 3, 2, 4]
        self.assertEqual(shortest_sequence(5, 3, 2, edges, [1, 3, 1, 1, 2]), [2, 1, 2, 2, 3])
        self.assertEqual(shortest_sequence(5, 3, 2, edges, [1, 2, 1, 1, 3]), [2, 1, 2, 2, 3])
        self.assertEqual(shortest_sequence(5, 3, 2, edges, [1, 2, 0, 1, 3]), [2, 4, 0, 0, 3])

    def test_the_lowest_possible_move_belongs_to_no_shortest_one(self):
        self.assertEqual(shortest_sequence(3, 2, 1, PATH_3, [2, 2, 0]), [1, 1, 2])
        self.assertEqual(shortest_sequence(3, 0, 1, PATH_3, [0, 2, 4]), [1, 1, 0])
        self.assertEqual(shortest_sequence(3, 1, 1, [0, 2, 1, 2], [2, 0, 2]), [1, 2, 1])
        self.assertEqual(shortest_sequence(5, 4, 1, PATH_5, [8, 2, 1, 1, 0]), [3, 1, 2, 2, 3, 3, 4])
        # A move from 0 to 1, or one off the target, only loses pebbles.
        self.assertEqual(shortest_sequence(4, 3, 1, [0, 1, 0, 2, 2, 3], [4, 0, 0, 0]), [3, 0, 2, 0, 2, 2, 3])
        self.assertEqual(shortest_sequence(3, 0, 5, PATH_3, [4, 2, 0]), [1, 1, 0])


class Lengths(unittest.TestCase):
    def test_every_pebble_but_one_is_needed(self):
        expected = [11, 0, 1, 0, 1, 0, 1, 0, 1, 1, 2, 1, 2, 1, 2, 1, 2, 2, 3, 2, 3, 3, 4]
        self.assertEqual(shortest_sequence(5, 4, 1, PATH_5, [8, 4, 0, 0, 0]), expected)
        self.assertEqual(shortest_sequence(5, 4, 1, PATH_5, [8, 3, 0, 0, 0]), [-33])

    def test_the_same_from_the_other_end(self):
        expected = [11, 3, 2, 3, 2, 2, 1, 4, 3, 4, 3, 3, 2, 4, 3, 4, 3, 3, 2, 2, 1, 1, 0]
        self.assertEqual(shortest_sequence(5, 0, 1, PATH_5, [0, 0, 0, 4, 8]), expected)

    def test_twelve_pebbles_on_one_vertex(self):
        self.assertEqual(shortest_sequence(2, 1, 6, [0, 1], [12, 0]), [6] + [0, 1] * 6)
        self.assertEqual(shortest_sequence(3, 2, 3, PATH_3, [12, 0, 0]), [9] + [0, 1] * 6 + [1, 2] * 3)
        self.assertEqual(shortest_sequence(3, 2, 4, PATH_3, [12, 0, 0]), [-33])


class Counts(unittest.TestCase):
    def test_none_is_reached_without_a_move(self):
        self.assertEqual(shortest_sequence(3, 2, 0, PATH_3, [4, 0, 0]), [0])
        self.assertEqual(shortest_sequence(3, 2, 0, PATH_3, [0, 0, 0]), [0])
        self.assertEqual(shortest_sequence(3, 2, 0, [], [1, 0, 0]), [0])

    def test_what_lies_on_the_target_needs_no_move(self):
        self.assertEqual(shortest_sequence(3, 2, 1, PATH_3, [4, 0, 5]), [0])
        self.assertEqual(shortest_sequence(3, 2, 5, PATH_3, [4, 0, 5]), [0])
        self.assertEqual(shortest_sequence(3, 2, 6, PATH_3, [4, 0, 5]), [3, 0, 1, 0, 1, 1, 2])
        self.assertEqual(shortest_sequence(3, 2, 7, PATH_3, [4, 0, 5]), [-33])
        self.assertEqual(shortest_sequence(2, 0, 12, [0, 1], [12, 0]), [0])
        self.assertEqual(shortest_sequence(2, 0, 13, [0, 1], [12, 0]), [-33])

    def test_one_count_after_the_other(self):
        answers = [shortest_sequence(3, 2, count, PATH_3, [4, 3, 1]) for count in range(5)]
        self.assertEqual(answers, [[0], [0], [1, 1, 2], [3, 0, 1, 1, 2, 1, 2], [-33]])

    def test_no_pebbles(self):
        self.assertEqual(shortest_sequence(2, 0, 1, [0, 1], [0, 0]), [-33])

    def test_counts_beyond_all_pebbles(self):
        for count in (14, 127, 128, 255, 256, 65536, 2147483648, BIGGEST - 1, BIGGEST):
            self.assertEqual(shortest_sequence(3, 2, count, PATH_3, [12, 0, 0]), [-33])
            self.assertEqual(shortest_sequence(1, 0, count, [], [12]), [-33])


if __name__ == "__main__":
    unittest.main()
