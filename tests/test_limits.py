"""What is refused, and which fault is named first when there are several."""

import unittest

from halvedpebbles.graph import (
    apply_moves, count_configurations, max_pebbles_at, min_moves, reachable_vertices, shortest_sequence, weight_at,
)

BIGGEST = 4294967295
COMPLETE_5 = [0, 1, 0, 2, 0, 3, 0, 4, 1, 2, 1, 3, 1, 4, 2, 3, 2, 4, 3, 4]

# Each row has one fault alone.
BAD_VERTEX_COUNTS = [
    (0, [], []),
    (6, [], [0, 0, 0, 0, 0, 0]),
    (6, [0, 1], [4, 0, 0, 0, 0, 0]),
    (6, [4, 5], [0, 0, 0, 0, 0, 12]),
    (7, [], [0, 0, 0, 0, 0, 0, 12]),
]
BAD_EDGES = [
    # an odd number of endpoints
    (1, [0], [4]),
    (2, [0], [4, 0]),
    (2, [1], [4, 0]),
    (3, [0, 1, 1], [4, 0, 0]),
    (3, [0, 1, 2], [4, 0, 0]),
    (3, [0, 1, 1, 2, 2], [4, 0, 0]),
    (5, COMPLETE_5 + [4], [4, 0, 0, 0, 0]),
    # u = v
    (1, [0, 0], [4]),
    (2, [0, 0], [4, 0]),
    (2, [1, 1], [4, 0]),
    (3, [0, 1, 1, 1], [4, 0, 0]),
    (3, [0, 0, 0, 1], [4, 0, 0]),
    (3, [0, 1, 2, 2], [4, 0, 0]),
    (5, COMPLETE_5 + [4, 4], [4, 0, 0, 0, 0]),
    # u > v
    (2, [1, 0], [4, 0]),
    (3, [0, 1, 2, 1], [4, 0, 0]),
    (3, [0, 2, 1, 0], [4, 0, 0]),
    (3, [2, 0], [4, 0, 0]),
    # an endpoint that is no vertex
    (1, [0, 1], [4]),
    (2, [0, 2], [4, 0]),
    (2, [1, 2], [4, 0]),
    (2, [2, 3], [4, 0]),
    (2, [0, 1, 1, 2], [4, 0]),
    (3, [0, 3, 1, 2], [4, 0, 0]),
    (4, [0, 1, 0, 4], [4, 0, 0, 0]),
    (5, [0, 5], [4, 0, 0, 0, 0]),
    (5, [5, 6], [4, 0, 0, 0, 0]),
    (5, COMPLETE_5 + [4, 5], [4, 0, 0, 0, 0]),
    (5, [0, BIGGEST], [4, 0, 0, 0, 0]),
    (5, [BIGGEST - 1, BIGGEST], [4, 0, 0, 0, 0]),
    # a pair twice
    (2, [0, 1, 0, 1], [4, 0]),
    (3, [0, 1, 0, 1, 1, 2], [4, 0, 0]),
    (3, [0, 1, 1, 2, 1, 2], [4, 0, 0]),
    (3, [0, 1, 1, 2, 0, 1], [4, 0, 0]),
    (5, COMPLETE_5 + [3, 4], [4, 0, 0, 0, 0]),
    # pairs out of order
    (3, [1, 2, 0, 1], [4, 0, 0]),
    (3, [0, 2, 0, 1], [4, 0, 0]),
    (3, [0, 1, 1, 2, 0, 2], [4, 0, 0]),
    (4, [2, 3, 0, 1], [4, 0, 0, 0]),
    (4, [0, 1, 1, 3, 1, 2], [4, 0, 0, 0]),
    (4, [1, 2, 0, 3], [4, 0, 0, 0]),
]
BAD_PEBBLES = [
    # too short, too long, empty
    (1, [], []),
    (1, [], [4, 0]),
    (2, [0, 1], []),
    (2, [0, 1], [4]),
    (2, [0, 1], [4, 0, 0]),
    (3, [0, 1, 1, 2], [4, 0]),
    (3, [0, 1, 1, 2], [4, 0, 0, 0]),
    (5, COMPLETE_5, [4, 0, 0, 0]),
    (5, COMPLETE_5, [4, 0, 0, 0, 0, 0]),
    (5, COMPLETE_5, [4, 0, 0, 0, 0, 0, 0]),
    # more than 12 pebbles
    (1, [], [13]),
    (2, [0, 1], [13, 0]),
    (2, [0, 1], [0, 13]),
    (3, [0, 1, 1, 2], [12, 1, 0]),
    (3, [0, 1, 1, 2], [12, 0, 1]),
    (5, COMPLETE_5, [3, 3, 3, 2, 2]),
    (2, [0, 1], [BIGGEST, 0]),
    (2, [0, 1], [BIGGEST, 1]),
    (2, [0, 1], [BIGGEST, 13]),
    (2, [0, 1], [2147483648, 2147483648]),
    (5, [], [BIGGEST, BIGGEST, BIGGEST, BIGGEST, BIGGEST]),
]
BAD_GRAPHS_AND_CONFIGURATIONS = BAD_VERTEX_COUNTS + BAD_EDGES + BAD_PEBBLES


# What counts and moves are handed in where they may make no difference.
COUNTS = (0, 1, 2, 13, BIGGEST)
SEVERAL_MOVES = ([], [0, 0], [0, 1], [0, 1, 1], [0, BIGGEST], [0] * 30, [0] * 32)


def answers_with_target(vertex_count, target, edges, pebbles):
    """What every operation that names a target answers, with one count after the other."""
    answers = [
        max_pebbles_at(vertex_count, target, edges, pebbles),
        weight_at(vertex_count, target, edges, pebbles),
    ]
    for count in COUNTS:
        answers.append(min_moves(vertex_count, target, count, edges, pebbles))
        answers.append(shortest_sequence(vertex_count, target, count, edges, pebbles))
    return answers


def answers_without_target(vertex_count, edges, pebbles):
    """What every operation that names no target answers."""
    answers = [
        reachable_vertices(vertex_count, edges, pebbles),
        count_configurations(vertex_count, edges, pebbles),
    ]
    for moves in SEVERAL_MOVES:
        answers.append(apply_moves(vertex_count, edges, pebbles, moves))
    return answers


class Refusals(unittest.TestCase):
    def refused(self, error, vertex_count, target, edges, pebbles):
        with self.subTest(vertex_count=vertex_count, target=target, edges=edges, pebbles=pebbles):
            for answer in answers_with_target(vertex_count, target, edges, pebbles):
                self.assertEqual(answer, [error])


class OutsideTheLimits(Refusals):
    def outside(self, rows):
        for vertex_count, edges, pebbles in rows:
            self.refused(-22, vertex_count, 0, edges, pebbles)
            with self.subTest(vertex_count=vertex_count, edges=edges, pebbles=pebbles):
                for answer in answers_without_target(vertex_count, edges, pebbles):
                    self.assertEqual(answer, [-22])

    def test_vertex_count(self):
        self.outside(BAD_VERTEX_COUNTS)

    def test_vertex_count_far_outside(self):
        counts = (8, 255, 256, 257, 65537, 2147483648, BIGGEST - 1, BIGGEST)
        self.outside([(count, [0, 1], [4, 0, 0, 0, 0, 0, 0]) for count in counts])

    def test_edges(self):
        self.outside(BAD_EDGES)

    def test_pebbles(self):
        self.outside(BAD_PEBBLES)

    def test_several_faults(self):
        self.outside([
            (0, [0], [13]),
            (6, [1, 0, 3], []),
            (2, [0, 1, 1], [1]),
            (2, [0, 1, 0, 1], [12, 1]),
            (BIGGEST, [BIGGEST], [BIGGEST]),
        ])


class WithinTheLimits(unittest.TestCase):
    def test_smallest_and_largest_vertex_count(self):
        self.assertEqual(min_moves(1, 0, 1, [], [1]), [0])
        self.assertEqual(max_pebbles_at(1, 0, [], [1]), [1])
        self.assertEqual(shortest_sequence(1, 0, 1, [], [1]), [0])
        self.assertEqual(reachable_vertices(1, [], [1]), [1, 0])
        self.assertEqual(weight_at(1, 0, [], [1]), [0, 1, 1])
        self.assertEqual(count_configurations(1, [], [1]), [1, 1])
        self.assertEqual(apply_moves(1, [], [1], [0, 0]), [0, 1])
        self.assertEqual(min_moves(5, 4, 1, COMPLETE_5, [2, 0, 0, 0, 0]), [1])
        self.assertEqual(max_pebbles_at(5, 4, COMPLETE_5, [2, 0, 0, 0, 0]), [1])
        self.assertEqual(shortest_sequence(5, 4, 1, COMPLETE_5, [2, 0, 0, 0, 0]), [1, 0, 4])
        self.assertEqual(reachable_vertices(5, COMPLETE_5, [2, 0, 0, 0, 0]), [5, 0, 1, 2, 3, 4])
        self.assertEqual(weight_at(5, 4, COMPLETE_5, [1, 0, 0, 0, 0]), [0, 1, 2])
        self.assertEqual(count_configurations(5, COMPLETE_5, [2, 0, 0, 0, 0]), [2, 5])
        self.assertEqual(apply_moves(5, COMPLETE_5, [2, 0, 0, 0, 0], [0, 4]), [1, 0, 0, 0, 0, 1])

    def test_twelve_pebbles(self):
        self.assertEqual(min_moves(5, 4, 1, COMPLETE_5, [3, 3, 3, 3, 0]), [1])
        self.assertEqual(max_pebbles_at(5, 4, COMPLETE_5, [12, 0, 0, 0, 0]), [6])
        self.assertEqual(max_pebbles_at(5, 4, [], [0, 0, 0, 0, 12]), [12])
        self.assertEqual(shortest_sequence(5, 4, 1, COMPLETE_5, [3, 3, 3, 3, 0]), [1, 0, 4])
        self.assertEqual(shortest_sequence(5, 4, 6, COMPLETE_5, [12, 0, 0, 0, 0]), [6] + [0, 4] * 6)
        self.assertEqual(reachable_vertices(5, COMPLETE_5, [3, 3, 3, 3, 0]), [5, 0, 1, 2, 3, 4])
        self.assertEqual(reachable_vertices(5, [], [0, 0, 0, 0, 12]), [1, 4])
        self.assertEqual(weight_at(5, 4, COMPLETE_5, [3, 3, 3, 2, 1]), [0, 13, 2])
        self.assertEqual(weight_at(1, 0, [], [12]), [0, 12, 1])
        self.assertEqual(count_configurations(2, [0, 1], [8, 4]), [12, 24])
        self.assertEqual(count_configurations(1, [], [12]), [1, 1])
        self.assertEqual(apply_moves(5, COMPLETE_5, [3, 3, 3, 2, 1], [3, 4]), [1, 3, 3, 3, 0, 2])
        self.assertEqual(apply_moves(1, [], [12], []), [0, 12])

    def test_second_endpoints_may_fall_where_the_first_ones_rise(self):
        self.assertEqual(min_moves(4, 3, 1, [0, 3, 1, 2], [2, 0, 0, 0]), [1])
        self.assertEqual(max_pebbles_at(4, 1, [0, 3, 1, 2], [0, 0, 4, 0]), [2])
        self.assertEqual(max_pebbles_at(5, 3, [0, 4, 1, 3, 2, 3], [0, 4, 4, 0, 0]), [4])
        self.assertEqual(shortest_sequence(4, 1, 1, [0, 3, 1, 2], [2, 0, 2, 0]), [1, 2, 1])
        self.assertEqual(reachable_vertices(4, [0, 3, 1, 2], [2, 0, 0, 0]), [2, 0, 3])
        self.assertEqual(weight_at(4, 1, [0, 3, 1, 2], [5, 0, 3, 0]), [0, 3, 2])
        self.assertEqual(count_configurations(4, [0, 3, 1, 2], [2, 0, 2, 0]), [3, 4])
        self.assertEqual(apply_moves(4, [0, 3, 1, 2], [2, 0, 2, 0], [0, 3, 2, 1]), [2, 0, 1, 0, 1])

    def test_the_first_edge_need_not_touch_vertex_0(self):
        self.assertEqual(max_pebbles_at(5, 4, [3, 4], [0, 0, 0, 2, 0]), [1])
        self.assertEqual(shortest_sequence(5, 4, 1, [3, 4], [0, 0, 0, 2, 0]), [1, 3, 4])
        self.assertEqual(reachable_vertices(5, [3, 4], [0, 0, 0, 2, 0]), [2, 3, 4])
        self.assertEqual(weight_at(5, 4, [3, 4], [1, 1, 1, 3, 0]), [0, 3, 2])
        self.assertEqual(count_configurations(5, [3, 4], [3, 0, 0, 2, 0]), [2, 2])
        self.assertEqual(apply_moves(5, [3, 4], [0, 0, 0, 2, 0], [3, 4]), [1, 0, 0, 0, 0, 1])


class Targets(Refusals):
    def test_last_vertex_and_one_more(self):
        for vertex_count in range(1, 6):
            pebbles = [2] * vertex_count
            last = vertex_count - 1
            self.assertEqual(min_moves(vertex_count, last, 2, [], pebbles), [0])
            self.assertEqual(max_pebbles_at(vertex_count, last, [], pebbles), [2])
            self.assertEqual(shortest_sequence(vertex_count, last, 2, [], pebbles), [0])
            self.assertEqual(weight_at(vertex_count, last, [], pebbles), [0, 2, 1])
            self.refused(-2, vertex_count, vertex_count, [], pebbles)

    def test_far_outside(self):
        for target in (5, 12, 255, 256, 65536, 2147483648, BIGGEST - 2, BIGGEST - 1, BIGGEST):
            self.refused(-2, 3, target, [0, 1, 1, 2], [4, 0, 0])


class OrderOfTheChecks(Refusals):
    def test_limits_ahead_of_the_target(self):
        for vertex_count, edges, pebbles in BAD_GRAPHS_AND_CONFIGURATIONS:
            for target in (vertex_count, 7, BIGGEST):
                self.refused(-22, vertex_count, target, edges, pebbles)

    def test_target_ahead_of_the_count(self):
        for target in (3, 4, BIGGEST):
            self.refused(-2, 3, target, [0, 1, 1, 2], [4, 0, 0])
            self.refused(-2, 3, target, [], [0, 0, 0])

    def test_several_faults_of_the_limits_and_the_target(self):
        self.refused(-22, 0, 0, [0], [13])
        self.refused(-22, 6, 6, [1, 0, 3], [])
        self.refused(-22, 2, 2, [0, 1, 1], [1])
        self.refused(-22, 2, 2, [0, 1, 0, 1], [12, 1])


if __name__ == "__main__":
    unittest.main()
