"""The requirements, and answers held against searches that share nothing with the program."""

import functools
import unittest
from fractions import Fraction

from halvedpebbles.graph import (
    apply_moves, max_pebbles_at, min_moves, reachable_vertices, shortest_sequence, weight_at,
)
from plain import (
    LARGER_CASES, all_sequences, configurations, directions, graphs, moved, next_configurations, nonempty_levels,
)


def by_length_and_order(sequence):
    return (len(sequence), sequence)


def best_by_plain_search(vertex_count, edges, pebbles):
    """For each target, for each number of pebbles that it can have, the first shortest sequence."""
    best = [{} for _ in range(vertex_count)]
    for sequence, end in all_sequences(edges, pebbles):
        for target in range(vertex_count):
            for count in range(end[target] + 1):
                so_far = best[target].get(count, sequence)
                best[target][count] = min(so_far, sequence, key=by_length_and_order)
    return best


@functools.lru_cache(maxsize=None)
def best_sequence(edges, pebbles, target, count):
    """The first shortest sequence that brings count pebbles to the target, or None."""
    if pebbles[target] >= count:
        return ()
    rests = [
        (move, best_sequence(edges, after, target, count))
        for move, after in next_configurations(edges, pebbles)
    ]
    return min([(move,) + rest for move, rest in rests if rest is not None], key=by_length_and_order, default=None)


def in_one_row(sequence):
    return [len(sequence)] + [vertex for move in sequence for vertex in move]


class Minimality(unittest.TestCase):
    def held_against_plain_search(self, vertex_count, edges, pebbles):
        best = best_by_plain_search(vertex_count, edges, pebbles)
        for target in range(vertex_count):
            where = (vertex_count, target, edges, pebbles)
            most = max(best[target])
            self.assertEqual(max_pebbles_at(vertex_count, target, edges, pebbles), [most], where)
            for count in range(most + 1):
                expected = in_one_row(best[target][count])
                self.assertEqual(min_moves(vertex_count, target, count, edges, pebbles), expected[:1], (where, count))
                answer = shortest_sequence(vertex_count, target, count, edges, pebbles)
                self.assertEqual(answer, expected, (where, count))
            self.assertEqual(min_moves(vertex_count, target, most + 1, edges, pebbles), [-33], where)
            self.assertEqual(shortest_sequence(vertex_count, target, most + 1, edges, pebbles), [-33], where)
        vertices = [vertex for vertex in range(vertex_count) if 1 in best[vertex]]
        answer = reachable_vertices(vertex_count, edges, pebbles)
        self.assertEqual(answer, [len(vertices)] + vertices, (vertex_count, edges, pebbles))

    def test_every_small_input(self):
        for vertex_count, most in ((1, 6), (2, 6), (3, 5), (4, 4)):
            for edges in graphs(vertex_count):
                for pebbles in configurations(vertex_count, most):
                    self.held_against_plain_search(vertex_count, edges, pebbles)

    def test_five_vertices(self):
        for edges in ([0, 1, 0, 4, 1, 2, 2, 3, 3, 4], [0, 1, 1, 2, 2, 3, 3, 4], [0, 4, 1, 2, 1, 4, 2, 3]):
            for pebbles in configurations(5, 4):
                self.held_against_plain_search(5, edges, pebbles)

    def test_larger_inputs(self):
        for vertex_count, edges, pebbles in LARGER_CASES:
            handed = (list(edges), list(pebbles))
            vertices = []
            for target in range(vertex_count):
                most = 0
                for count in range(14):
                    where = (edges, pebbles, target, count)
                    best = best_sequence(edges, pebbles, target, count)
                    expected = [-33] if best is None else in_one_row(best)
                    self.assertEqual(min_moves(vertex_count, target, count, *handed), expected[:1], where)
                    self.assertEqual(shortest_sequence(vertex_count, target, count, *handed), expected, where)
                    most = most if best is None else count
                self.assertEqual(max_pebbles_at(vertex_count, target, *handed), [most], (edges, pebbles, target))
                if most > 0:
                    vertices.append(target)
            self.assertEqual(reachable_vertices(vertex_count, *handed), [len(vertices)] + vertices, (edges, pebbles))


class Sequences(unittest.TestCase):
    def performed(self, vertex_count, target, count, edges, pebbles):
        """Perform the answered moves one after another, and look where they lead."""
        where = (vertex_count, target, count, edges, pebbles)
        answer = shortest_sequence(vertex_count, target, count, edges, pebbles)
        fewest = min_moves(vertex_count, target, count, edges, pebbles)
        self.assertEqual(answer[:1], fewest, where)
        if fewest[0] < 0:
            return
        self.assertEqual(len(answer), 1 + 2 * fewest[0], where)
        now = tuple(pebbles)
        for move in zip(answer[1::2], answer[2::2]):
            self.assertLess(now[target], count, where)
            self.assertIn(move, directions(edges), where)
            self.assertGreaterEqual(now[move[0]], 2, where)
            now = moved(now, *move)
        self.assertGreaterEqual(now[target], count, where)
        self.assertEqual(sum(now), sum(pebbles) - fewest[0], where)

    def test_every_small_input(self):
        for vertex_count, most in ((1, 6), (2, 6), (3, 5), (4, 4)):
            for edges in graphs(vertex_count):
                for pebbles in configurations(vertex_count, most):
                    for target in range(vertex_count):
                        for count in range(4):
                            self.performed(vertex_count, target, count, edges, pebbles)

    def test_larger_inputs(self):
        for vertex_count, edges, pebbles in LARGER_CASES:
            for target in range(vertex_count):
                for count in range(14):
                    self.performed(vertex_count, target, count, list(edges), list(pebbles))


class Weight(unittest.TestCase):
    def weights(self, vertex_count, edges, pebbles):
        """The weight at every target, each an exact fraction."""
        answers = [weight_at(vertex_count, target, edges, pebbles) for target in range(vertex_count)]
        for answer in answers:
            self.assertEqual(len(answer), 3, (edges, pebbles))
            self.assertEqual(answer[0], 0, (edges, pebbles))
        return [Fraction(numerator, denominator) for _, numerator, denominator in answers]

    def bounds(self, vertex_count, edges, pebbles):
        before = self.weights(vertex_count, edges, pebbles)
        for target in range(vertex_count):
            most = max_pebbles_at(vertex_count, target, edges, pebbles)[0]
            self.assertLessEqual(most, before[target], (edges, pebbles, target))
        for move, pebbles_after in next_configurations(edges, pebbles):
            after = self.weights(vertex_count, edges, list(pebbles_after))
            for target in range(vertex_count):
                self.assertLessEqual(after[target], before[target], (edges, pebbles, move, target))

    def test_small_inputs(self):
        for vertex_count, most in ((1, 12), (2, 12), (3, 6), (4, 4)):
            for edges in graphs(vertex_count):
                for pebbles in configurations(vertex_count, most):
                    self.bounds(vertex_count, edges, pebbles)

    def test_five_vertices(self):
        for edges in graphs(5):
            for pebbles in ([2, 2, 2, 0, 1], [3, 0, 4, 1, 0], [0, 6, 0, 0, 1]):
                self.bounds(5, edges, pebbles)

    def test_larger_inputs(self):
        for vertex_count, edges, pebbles in LARGER_CASES:
            for level in nonempty_levels(edges, pebbles)[:4]:
                for after in sorted(level):
                    self.bounds(vertex_count, list(edges), list(after))


class Monotonicity(unittest.TestCase):
    def one_more_never_harms(self, vertex_count, edges, pebbles):
        for target in range(vertex_count):
            before = max_pebbles_at(vertex_count, target, edges, pebbles)[0]
            self.assertGreaterEqual(before, 0)
            for place in range(vertex_count):
                more = list(pebbles)
                more[place] += 1
                after = max_pebbles_at(vertex_count, target, edges, more)[0]
                self.assertGreaterEqual(after, before, (vertex_count, target, edges, pebbles, place))

    def test_another_pebble_at_small_inputs(self):
        for vertex_count, most in ((1, 11), (2, 11), (3, 5), (4, 2)):
            for edges in graphs(vertex_count):
                for pebbles in configurations(vertex_count, most):
                    self.one_more_never_harms(vertex_count, edges, pebbles)

    def test_another_pebble_up_to_the_limit(self):
        for vertex_count, edges, pebbles in LARGER_CASES:
            for place in range(vertex_count):
                if pebbles[place] > 0:
                    fewer = list(pebbles)
                    fewer[place] -= 1
                    self.one_more_never_harms(vertex_count, list(edges), fewer)

    def test_every_move_costs_one_pebble(self):
        for vertex_count, edges, pebbles in LARGER_CASES:
            for target in range(vertex_count):
                most = max_pebbles_at(vertex_count, target, list(edges), list(pebbles))[0]
                moves = min_moves(vertex_count, target, most, list(edges), list(pebbles))[0]
                self.assertGreaterEqual(moves, most - pebbles[target])
                self.assertLessEqual(moves, sum(pebbles) - most)

    def every_performed_move_costs_one(self, vertex_count, edges, pebbles, moves):
        """Perform ever more of the moves, and look how many pebbles are left."""
        for end in range(0, len(moves) + 1, 2):
            answer = apply_moves(vertex_count, edges, pebbles, moves[:end])
            self.assertEqual(sum(answer[1:]), sum(pebbles) - answer[0], (vertex_count, edges, pebbles, moves[:end]))
            self.assertEqual(len(answer), 1 + vertex_count)
            self.assertGreaterEqual(min(answer[1:]), 0)

    def test_one_move_at_small_inputs(self):
        for vertex_count, most in ((1, 12), (2, 12), (3, 6), (4, 4)):
            for edges in graphs(vertex_count):
                for pebbles in configurations(vertex_count, most):
                    for source in range(vertex_count):
                        for goal in range(vertex_count):
                            self.every_performed_move_costs_one(vertex_count, edges, pebbles, [source, goal])

    def test_one_move_after_the_other(self):
        for vertex_count, edges, pebbles in LARGER_CASES:
            handed = (list(edges), list(pebbles))
            for target in range(vertex_count):
                for count in range(14):
                    moves = shortest_sequence(vertex_count, target, count, *handed)[1:]
                    self.every_performed_move_costs_one(vertex_count, *handed, moves)


if __name__ == "__main__":
    unittest.main()
