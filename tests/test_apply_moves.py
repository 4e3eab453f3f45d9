"""apply_moves at ordinary inputs, at the edges of its own arguments, and against a plain walk."""

import itertools
import unittest

from halvedpebbles.graph import apply_moves, shortest_sequence
from plain import LARGER_CASES, all_sequences, configurations, graphs, next_configurations

BIGGEST = 4294967295
PATH_3 = [0, 1, 1, 2]
PATH_5 = [0, 1, 1, 2, 2, 3, 3, 4]
CYCLE_4 = [0, 1, 0, 3, 1, 2, 2, 3]
STAR_5 = [0, 1, 0, 2, 0, 3, 0, 4]
COMPLETE_5 = [0, 1, 0, 2, 0, 3, 0, 4, 1, 2, 1, 3, 1, 4, 2, 3, 2, 4, 3, 4]
TWO_PIECES = [0, 1, 2, 3]


def in_one_row(moves):
    return [vertex for move in moves for vertex in move]


def plain_walk(edges, pebbles, moves):
    """How many moves are performed, and the configuration then."""
    now = tuple(pebbles)
    for done, move in enumerate(moves):
        possible = dict(next_configurations(edges, now))
        if move not in possible:
            return [done, *now]
        now = possible[move]
    return [len(moves), *now]


class NoMoves(unittest.TestCase):
    def test_the_configuration_as_it_was_handed_in(self):
        self.assertEqual(apply_moves(3, PATH_3, [4, 0, 0], []), [0, 4, 0, 0])
        self.assertEqual(apply_moves(3, PATH_3, [0, 0, 0], []), [0, 0, 0, 0])
        self.assertEqual(apply_moves(3, [], [3, 4, 5], []), [0, 3, 4, 5])
        self.assertEqual(apply_moves(5, COMPLETE_5, [1, 2, 3, 4, 2], []), [0, 1, 2, 3, 4, 2])
        self.assertEqual(apply_moves(1, [], [12], []), [0, 12])


class PossibleMoves(unittest.TestCase):
    def test_one(self):
        self.assertEqual(apply_moves(3, PATH_3, [4, 0, 0], [0, 1]), [1, 2, 1, 0])
        self.assertEqual(apply_moves(3, PATH_3, [2, 0, 0], [0, 1]), [1, 0, 1, 0])
        self.assertEqual(apply_moves(4, CYCLE_4, [3, 1, 0, 2], [0, 3]), [1, 1, 1, 0, 3])
        self.assertEqual(apply_moves(5, STAR_5, [0, 0, 0, 12, 0], [3, 0]), [1, 1, 0, 0, 10, 0])

    def test_along_an_edge_in_either_direction(self):
        self.assertEqual(apply_moves(2, [0, 1], [3, 3], [0, 1]), [1, 1, 4])
        self.assertEqual(apply_moves(2, [0, 1], [3, 3], [1, 0]), [1, 4, 1])
        self.assertEqual(apply_moves(2, [0, 1], [3, 3], [0, 1, 1, 0]), [2, 2, 2])
        self.assertEqual(apply_moves(3, PATH_3, [0, 2, 0], [1, 0]), [1, 1, 0, 0])
        self.assertEqual(apply_moves(3, PATH_3, [0, 2, 0], [1, 2]), [1, 0, 0, 1])
        self.assertEqual(apply_moves(5, [3, 4], [0, 0, 0, 2, 2], [4, 3]), [1, 0, 0, 0, 3, 0])

    def test_several(self):
        self.assertEqual(apply_moves(3, PATH_3, [4, 0, 0], [0, 1, 0, 1, 1, 2]), [3, 0, 0, 1])
        self.assertEqual(apply_moves(4, CYCLE_4, [4, 3, 0, 3], [0, 1, 0, 3, 1, 2, 1, 2, 3, 2, 3, 2]), [6, 0, 0, 4, 0])
        self.assertEqual(apply_moves(4, TWO_PIECES, [2, 0, 0, 3], [3, 2, 0, 1]), [2, 0, 1, 1, 1])
        self.assertEqual(apply_moves(5, COMPLETE_5, [0, 3, 3, 3, 3], [1, 0, 2, 0, 3, 0, 4, 0]), [4, 4, 1, 1, 1, 1])

    def test_in_the_order_that_was_handed_in(self):
        self.assertEqual(apply_moves(3, PATH_3, [2, 2, 0], [1, 2, 0, 1]), [2, 0, 1, 1])
        self.assertEqual(apply_moves(3, PATH_3, [2, 2, 0], [0, 1, 1, 2]), [2, 0, 1, 1])
        self.assertEqual(apply_moves(3, PATH_3, [2, 1, 0], [0, 1, 1, 2]), [2, 0, 0, 1])
        self.assertEqual(apply_moves(3, PATH_3, [2, 1, 0], [1, 2, 0, 1]), [0, 2, 1, 0])

    def test_a_move_that_only_an_earlier_one_makes_possible(self):
        self.assertEqual(apply_moves(3, PATH_3, [0, 1, 2], [2, 1, 1, 0]), [2, 1, 0, 0])
        self.assertEqual(apply_moves(5, STAR_5, [0, 2, 2, 0, 0], [1, 0, 2, 0, 0, 4]), [3, 0, 0, 0, 0, 1])
        self.assertEqual(apply_moves(5, STAR_5, [0, 2, 2, 0, 0], [1, 0, 0, 4, 2, 0]), [1, 1, 0, 2, 0, 0])

    def test_there_and_back(self):
        self.assertEqual(apply_moves(2, [0, 1], [5, 0], [0, 1, 0, 1, 1, 0, 0, 1]), [4, 0, 1])

    def test_twelve_pebbles_moved_as_often_as_can_be(self):
        moves = [0, 1] * 4 + [1, 2] * 4 + [2, 3] * 2 + [3, 4]
        self.assertEqual(apply_moves(5, PATH_5, [8, 4, 0, 0, 0], moves), [11, 0, 0, 0, 0, 1])
        self.assertEqual(apply_moves(5, PATH_5, [8, 4, 0, 0, 0], moves + [4, 3] * 4), [11, 0, 0, 0, 0, 1])
        moves = [0, 1] * 4 + [1, 0] * 4 + [0, 1] * 2 + [1, 0]
        self.assertEqual(apply_moves(2, [0, 1], [8, 4], moves), [11, 1, 0])


class MovesThatStop(unittest.TestCase):
    def test_too_few_pebbles(self):
        self.assertEqual(apply_moves(3, PATH_3, [1, 2, 1], [0, 1]), [0, 1, 2, 1])
        self.assertEqual(apply_moves(3, PATH_3, [0, 2, 1], [0, 1]), [0, 0, 2, 1])
        self.assertEqual(apply_moves(2, [0, 1], [1, 11], [0, 1]), [0, 1, 11])

    def test_not_adjacent(self):
        self.assertEqual(apply_moves(3, PATH_3, [4, 0, 0], [0, 2]), [0, 4, 0, 0])
        self.assertEqual(apply_moves(3, PATH_3, [0, 0, 4], [2, 0]), [0, 0, 0, 4])
        self.assertEqual(apply_moves(4, TWO_PIECES, [4, 4, 4, 0], [1, 2]), [0, 4, 4, 4, 0])
        self.assertEqual(apply_moves(5, STAR_5, [0, 12, 0, 0, 0], [1, 2]), [0, 0, 12, 0, 0, 0])
        self.assertEqual(apply_moves(3, [], [4, 4, 4], [0, 1]), [0, 4, 4, 4])

    def test_from_a_vertex_to_itself(self):
        self.assertEqual(apply_moves(3, PATH_3, [4, 0, 0], [0, 0]), [0, 4, 0, 0])
        self.assertEqual(apply_moves(5, COMPLETE_5, [4, 4, 4, 0, 0], [2, 2]), [0, 4, 4, 4, 0, 0])
        self.assertEqual(apply_moves(5, COMPLETE_5, [4, 4, 4, 0, 0], [0, 1, 2, 2]), [1, 2, 5, 4, 0, 0])

    def test_later_ones_are_not_performed(self):
        self.assertEqual(apply_moves(3, PATH_3, [4, 0, 0], [1, 2, 0, 1]), [0, 4, 0, 0])
        self.assertEqual(apply_moves(3, PATH_3, [4, 0, 0], [0, 2, 0, 1]), [0, 4, 0, 0])
        self.assertEqual(apply_moves(3, PATH_3, [4, 0, 0], [0, 0, 0, 1]), [0, 4, 0, 0])

    def test_in_the_middle(self):
        self.assertEqual(apply_moves(3, PATH_3, [6, 0, 0], [0, 1, 1, 2, 0, 1, 0, 1]), [1, 4, 1, 0])
        self.assertEqual(apply_moves(3, PATH_3, [6, 0, 0], [0, 1, 0, 2, 0, 1, 1, 2]), [1, 4, 1, 0])
        self.assertEqual(apply_moves(3, PATH_3, [6, 0, 0], [0, 1, 0, 1, 1, 1, 1, 2]), [2, 2, 2, 0])

    def test_the_last_one(self):
        self.assertEqual(apply_moves(3, PATH_3, [4, 0, 0], [0, 1, 0, 1, 1, 2, 2, 1]), [3, 0, 0, 1])
        self.assertEqual(apply_moves(2, [0, 1], [5, 0], [0, 1] * 3), [2, 1, 2])


class LimitsOfTheMoves(unittest.TestCase):
    def test_thirty_elements_and_thirty_two(self):
        self.assertEqual(apply_moves(2, [0, 1], [12, 0], [0, 1] * 15), [6, 0, 6])
        self.assertEqual(apply_moves(2, [0, 1], [1, 0], [0, 1] * 15), [0, 1, 0])
        self.assertEqual(apply_moves(2, [0, 1], [12, 0], [0, 1] * 16), [-22])
        self.assertEqual(apply_moves(2, [0, 1], [1, 0], [0, 1] * 16), [-22])
        self.assertEqual(apply_moves(1, [], [12], [0] * 30), [0, 12])
        self.assertEqual(apply_moves(1, [], [12], [0] * 32), [-22])
        self.assertEqual(apply_moves(5, COMPLETE_5, [12, 0, 0, 0, 0], [0, 4] * 15), [6, 0, 0, 0, 0, 6])
        self.assertEqual(apply_moves(5, COMPLETE_5, [12, 0, 0, 0, 0], [0, 4] * 16), [-22])

    def test_every_number_of_elements(self):
        for size in range(33):
            answer = apply_moves(2, [0, 1], [2, 0], ([0, 1] * 17)[:size])
            expected = [-22] if size % 2 == 1 or size > 30 else [0, 2, 0] if size == 0 else [1, 0, 1]
            self.assertEqual(answer, expected, size)

    def test_an_odd_number_of_elements(self):
        for size in (1, 3, 29, 31):
            self.assertEqual(apply_moves(3, PATH_3, [4, 0, 0], [0] * size), [-22])
            self.assertEqual(apply_moves(1, [], [4], [0] * size), [-22])
        self.assertEqual(apply_moves(3, PATH_3, [4, 0, 0], [0, 1, 0]), [-22])

    def test_an_element_that_is_no_vertex(self):
        for vertex_count in range(1, 6):
            pebbles = [2] * vertex_count
            last = vertex_count - 1
            for source, goal in ((last, last), (0, last), (last, 0)):
                answer = apply_moves(vertex_count, [], pebbles, [source, goal])
                self.assertEqual(answer, [0] + pebbles)
            for outside in (vertex_count, vertex_count + 1, 31, 65536, 2147483648, BIGGEST - 1, BIGGEST):
                for moves in ([outside, 0], [0, outside], [outside, outside]):
                    self.assertEqual(apply_moves(vertex_count, [], pebbles, moves), [-22], moves)

    def test_the_last_vertex_is_one(self):
        self.assertEqual(apply_moves(3, PATH_3, [0, 0, 4], [2, 1]), [1, 0, 1, 2])
        self.assertEqual(apply_moves(3, PATH_3, [0, 4, 0], [1, 2]), [1, 0, 2, 1])
        self.assertEqual(apply_moves(3, PATH_3, [0, 4, 0], [1, 3]), [-22])

    def test_no_vertex_at_every_place(self):
        for size in (2, 4, 28, 30):
            for place in range(size):
                for outside in (3, BIGGEST):
                    moves = ([0, 1] * 15)[:size]
                    moves[place] = outside
                    self.assertEqual(apply_moves(3, PATH_3, [4, 0, 0], moves), [-22], moves)

    def test_no_vertex_behind_a_move_that_is_not_possible(self):
        self.assertEqual(apply_moves(3, PATH_3, [4, 0, 0], [0, 2, 3, 0]), [-22])
        self.assertEqual(apply_moves(3, PATH_3, [4, 0, 0], [1, 0, 0, 3]), [-22])
        self.assertEqual(apply_moves(3, PATH_3, [4, 0, 0], [0, 1, 0, 0, 0, 1, BIGGEST, 1]), [-22])
        self.assertEqual(apply_moves(3, PATH_3, [0, 0, 0], [0, 1] * 14 + [0, 3]), [-22])

    def test_one_vertex(self):
        self.assertEqual(apply_moves(1, [], [4], [0, 0]), [0, 4])
        self.assertEqual(apply_moves(1, [], [4], [0, 0, 0, 0]), [0, 4])
        self.assertEqual(apply_moves(1, [], [4], [0, 1]), [-22])
        self.assertEqual(apply_moves(1, [], [4], [1, 0]), [-22])
        self.assertEqual(apply_moves(1, [], [4], [0]), [-22])

    def test_several_faults(self):
        self.assertEqual(apply_moves(3, PATH_3, [4, 0, 0], [3]), [-22])
        self.assertEqual(apply_moves(3, PATH_3, [4, 0, 0], [0, 1, 3]), [-22])
        self.assertEqual(apply_moves(3, PATH_3, [4, 0, 0], [3] * 31), [-22])
        self.assertEqual(apply_moves(3, PATH_3, [4, 0, 0], [BIGGEST] * 32), [-22])
        self.assertEqual(apply_moves(3, PATH_3, [13, 0, 0], [BIGGEST]), [-22])
        self.assertEqual(apply_moves(3, [1, 0], [4, 0, 0], [0, 1, 1]), [-22])
        self.assertEqual(apply_moves(6, [0, 1], [4, 0, 0, 0, 0, 0], [6, 7]), [-22])


class AgainstAPlainWalk(unittest.TestCase):
    def held_against_walk(self, vertex_count, edges, pebbles, moves):
        answer = apply_moves(vertex_count, edges, pebbles, in_one_row(moves))
        self.assertEqual(answer, plain_walk(edges, pebbles, moves), (vertex_count, edges, pebbles, moves))

    def test_whatever_moves(self):
        for vertex_count, most, longest in ((1, 4, 3), (2, 7, 4), (3, 4, 2), (4, 3, 1)):
            pairs = list(itertools.product(range(vertex_count), repeat=2))
            for edges in graphs(vertex_count):
                for pebbles in configurations(vertex_count, most):
                    for length in range(longest + 1):
                        for moves in itertools.product(pairs, repeat=length):
                            self.held_against_walk(vertex_count, edges, pebbles, moves)

    def test_every_sequence_of_possible_moves(self):
        for vertex_count, most in ((2, 7), (3, 5), (4, 4)):
            for edges in graphs(vertex_count):
                for pebbles in configurations(vertex_count, most):
                    for moves, end in all_sequences(edges, pebbles):
                        answer = apply_moves(vertex_count, edges, pebbles, in_one_row(moves))
                        self.assertEqual(answer, [len(moves), *end], (edges, pebbles, moves))

    def test_every_end_behind_a_sequence_of_possible_moves(self):
        pairs = list(itertools.product(range(3), repeat=2))
        for edges in graphs(3):
            for pebbles in configurations(3, 5):
                for moves, end in all_sequences(edges, pebbles):
                    possible = [move for move, _ in next_configurations(edges, end)]
                    for move in pairs:
                        if move not in possible:
                            handed = in_one_row(moves + (move,) + tuple(possible))
                            answer = apply_moves(3, edges, pebbles, handed)
                            self.assertEqual(answer, [len(moves), *end], (edges, pebbles, handed))

    def test_larger_inputs(self):
        for vertex_count, edges, pebbles in LARGER_CASES:
            pairs = list(itertools.product(range(vertex_count), repeat=2))
            for skipped in range(1, 12):
                moves = [pairs[place * skipped % len(pairs)] for place in range(15)]
                self.held_against_walk(vertex_count, list(edges), list(pebbles), moves)


class ShortestSequences(unittest.TestCase):
    def all_are_performed(self, vertex_count, edges, pebbles):
        for target, count in itertools.product(range(vertex_count), range(8)):
            answer = shortest_sequence(vertex_count, target, count, edges, pebbles)
            if answer != [-33]:
                performed = apply_moves(vertex_count, edges, pebbles, answer[1:])
                where = (vertex_count, target, count, edges, pebbles)
                self.assertEqual(performed[0], answer[0], where)
                self.assertEqual(len(performed), 1 + vertex_count, where)
                self.assertGreaterEqual(performed[1 + target], count, where)

    def test_small_inputs(self):
        for vertex_count, most in ((1, 8), (2, 8), (3, 5), (4, 4)):
            for edges in graphs(vertex_count):
                for pebbles in configurations(vertex_count, most):
                    self.all_are_performed(vertex_count, edges, pebbles)

    def test_larger_inputs(self):
        for vertex_count, edges, pebbles in LARGER_CASES:
            self.all_are_performed(vertex_count, list(edges), list(pebbles))


if __name__ == "__main__":
    unittest.main()
