"""What holds of every call: its form, its answer's form, and that it leaves nothing behind."""

import contextlib
import inspect
import io
import sys
import unittest

from halvedpebbles import graph

PATH_3 = [0, 1, 1, 2]
CYCLE_4 = [0, 1, 0, 3, 1, 2, 2, 3]

# Calls with the name of the operation, what is handed in, and the answer.
CALLS = [
    ("min_moves", (3, 2, 1, PATH_3, [4, 0, 0]), [3]),
    ("min_moves", (3, 2, 1, PATH_3, [3, 0, 0]), [-33]),
    ("min_moves", (3, 2, 0, PATH_3, [0, 0, 0]), [0]),
    ("min_moves", (3, 2, 1, PATH_3, [0, 2, 0]), [1]),
    ("min_moves", (3, 2, 1, [0, 2], [4, 0, 0]), [1]),
    ("min_moves", (3, 2, 1, [0, 1], [4, 0, 0]), [-33]),
    ("min_moves", (3, 0, 4, PATH_3, [4, 0, 0]), [0]),
    ("min_moves", (3, 1, 2, PATH_3, [4, 0, 0]), [2]),
    ("min_moves", (3, 3, 1, PATH_3, [4, 0, 0]), [-2]),
    ("min_moves", (3, 2, 1, [0, 1, 1], [4, 0, 0]), [-22]),
    ("min_moves", (3, 2, 1, PATH_3, [4, 0]), [-22]),
    ("min_moves", (4, 2, 4, CYCLE_4, [4, 3, 0, 3]), [6]),
    ("max_pebbles_at", (3, 2, PATH_3, [4, 0, 0]), [1]),
    ("max_pebbles_at", (3, 2, PATH_3, [3, 0, 0]), [0]),
    ("max_pebbles_at", (3, 1, PATH_3, [2, 0, 0]), [1]),
    ("max_pebbles_at", (3, 2, [0, 2], [4, 0, 0]), [2]),
    ("max_pebbles_at", (3, 2, [0, 1], [4, 0, 0]), [0]),
    ("max_pebbles_at", (3, 0, PATH_3, [4, 0, 0]), [4]),
    ("max_pebbles_at", (3, 3, PATH_3, [4, 0, 0]), [-2]),
    ("max_pebbles_at", (3, 2, [1, 0], [4, 0, 0]), [-22]),
    ("max_pebbles_at", (3, 2, PATH_3, [13, 0, 0]), [-22]),
    ("max_pebbles_at", (4, 2, CYCLE_4, [4, 3, 0, 3]), [4]),
    ("shortest_sequence", (3, 2, 1, PATH_3, [4, 0, 0]), [3, 0, 1, 0, 1, 1, 2]),
    ("shortest_sequence", (3, 2, 1, PATH_3, [3, 0, 0]), [-33]),
    ("shortest_sequence", (3, 2, 0, PATH_3, [0, 0, 0]), [0]),
    ("shortest_sequence", (3, 0, 4, PATH_3, [4, 0, 0]), [0]),
    ("shortest_sequence", (3, 2, 1, PATH_3, [0, 2, 0]), [1, 1, 2]),
    ("shortest_sequence", (3, 2, 1, [0, 2], [4, 0, 0]), [1, 0, 2]),
    ("shortest_sequence", (3, 1, 2, PATH_3, [4, 0, 0]), [2, 0, 1, 0, 1]),
    ("shortest_sequence", (3, 3, 1, PATH_3, [4, 0, 0]), [-2]),
    ("shortest_sequence", (3, 2, 1, [0, 1, 1], [4, 0, 0]), [-22]),
    ("shortest_sequence", (3, 2, 1, PATH_3, [4, 0]), [-22]),
    ("shortest_sequence", (4, 2, 4, CYCLE_4, [4, 3, 0, 3]), [6, 0, 1, 0, 3, 1, 2, 1, 2, 3, 2, 3, 2]),
    ("reachable_vertices", (3, PATH_3, [4, 0, 0]), [3, 0, 1, 2]),
    ("reachable_vertices", (3, PATH_3, [3, 0, 0]), [2, 0, 1]),
    ("reachable_vertices", (3, PATH_3, [0, 0, 0]), [0]),
    ("reachable_vertices", (3, [0, 2], [4, 0, 0]), [2, 0, 2]),
    ("reachable_vertices", (3, [0, 1], [4, 0, 1]), [3, 0, 1, 2]),
    ("reachable_vertices", (3, [1, 0], [4, 0, 0]), [-22]),
    ("reachable_vertices", (3, PATH_3, [13, 0, 0]), [-22]),
    ("reachable_vertices", (4, CYCLE_4, [3, 0, 0, 0]), [3, 0, 1, 3]),
    ("weight_at", (3, 2, PATH_3, [4, 0, 0]), [0, 1, 1]),
    ("weight_at", (3, 2, PATH_3, [3, 0, 0]), [0, 3, 4]),
    ("weight_at", (3, 2, PATH_3, [0, 0, 0]), [0, 0, 1]),
    ("weight_at", (3, 2, [0, 2], [4, 0, 0]), [0, 2, 1]),
    ("weight_at", (3, 2, [0, 1], [4, 0, 0]), [0, 0, 1]),
    ("weight_at", (3, 0, PATH_3, [4, 0, 0]), [0, 4, 1]),
    ("weight_at", (3, 3, PATH_3, [4, 0, 0]), [-2]),
    ("weight_at", (3, 2, [1, 0], [4, 0, 0]), [-22]),
    ("weight_at", (3, 2, PATH_3, [4, 0]), [-22]),
    ("weight_at", (4, 2, CYCLE_4, [4, 3, 0, 3]), [0, 4, 1]),
    ("count_configurations", (3, PATH_3, [4, 0, 0]), [4, 5]),
    ("count_configurations", (3, PATH_3, [3, 0, 0]), [2, 2]),
    ("count_configurations", (3, PATH_3, [0, 0, 0]), [1, 1]),
    ("count_configurations", (3, [0, 2], [4, 0, 0]), [4, 4]),
    ("count_configurations", (3, [1, 0], [4, 0, 0]), [-22]),
    ("count_configurations", (3, PATH_3, [13, 0, 0]), [-22]),
    ("count_configurations", (4, CYCLE_4, [3, 0, 0, 0]), [2, 3]),
    ("apply_moves", (3, PATH_3, [4, 0, 0], [0, 1, 1, 2]), [1, 2, 1, 0]),
    ("apply_moves", (3, PATH_3, [4, 0, 0], [0, 1, 0, 1, 1, 2]), [3, 0, 0, 1]),
    ("apply_moves", (3, PATH_3, [4, 0, 0], []), [0, 4, 0, 0]),
    ("apply_moves", (3, PATH_3, [4, 0, 0], [0, 2, 0, 1]), [0, 4, 0, 0]),
    ("apply_moves", (3, [0, 2], [4, 0, 0], [0, 2, 0, 2]), [2, 0, 0, 2]),
    ("apply_moves", (3, PATH_3, [4, 0, 0], [0, 1, 1]), [-22]),
    ("apply_moves", (3, PATH_3, [4, 0, 0], [0, 3]), [-22]),
    ("apply_moves", (3, PATH_3, [4, 0, 0], [0, 1] * 16), [-22]),
    ("apply_moves", (3, [1, 0], [4, 0, 0], [0, 1]), [-22]),
    ("apply_moves", (3, PATH_3, [13, 0, 0], []), [-22]),
    ("apply_moves", (4, CYCLE_4, [4, 3, 0, 3], [1, 2, 3, 2, 0, 1]), [3, 2, 2, 2, 1]),
]


def copied(handed):
    return tuple(list(value) if isinstance(value, list) else value for value in handed)


def called(name, handed):
    return getattr(graph, name)(*handed)


class Form(unittest.TestCase):
    def test_names_and_parameters(self):
        parameters = {
            "min_moves": ["vertex_count", "target", "count", "edges", "pebbles"],
            "max_pebbles_at": ["vertex_count", "target", "edges", "pebbles"],
            "shortest_sequence": ["vertex_count", "target", "count", "edges", "pebbles"],
            "reachable_vertices": ["vertex_count", "edges", "pebbles"],
            "weight_at": ["vertex_count", "target", "edges", "pebbles"],
            "count_configurations": ["vertex_count", "edges", "pebbles"],
            "apply_moves": ["vertex_count", "edges", "pebbles", "moves"],
        }
        self.assertEqual({name for name, _, _ in CALLS}, set(parameters))
        for name, expected in parameters.items():
            self.assertEqual(list(inspect.signature(getattr(graph, name)).parameters), expected)

    def test_parameters_by_name(self):
        self.assertEqual(graph.min_moves(pebbles=[4, 0, 0], edges=PATH_3, count=1, target=2, vertex_count=3), [3])
        self.assertEqual(graph.max_pebbles_at(pebbles=[4, 0, 0], edges=PATH_3, target=1, vertex_count=3), [2])
        answer = graph.shortest_sequence(pebbles=[4, 0, 0], edges=PATH_3, count=2, target=1, vertex_count=3)
        self.assertEqual(answer, [2, 0, 1, 0, 1])
        self.assertEqual(graph.reachable_vertices(pebbles=[2, 0, 0], edges=PATH_3, vertex_count=3), [2, 0, 1])
        self.assertEqual(graph.weight_at(pebbles=[3, 0, 0], edges=PATH_3, target=2, vertex_count=3), [0, 3, 4])
        self.assertEqual(graph.count_configurations(pebbles=[4, 0, 0], edges=PATH_3, vertex_count=3), [4, 5])
        answer = graph.apply_moves(moves=[0, 1], pebbles=[4, 0, 0], edges=PATH_3, vertex_count=3)
        self.assertEqual(answer, [1, 2, 1, 0])

    def test_answers_are_flat_lists_of_ints(self):
        for name, handed, expected in CALLS:
            answer = called(name, copied(handed))
            self.assertEqual(answer, expected, (name, handed))
            self.assertIs(type(answer), list, (name, handed))
            self.assertEqual({type(number) for number in answer}, {int}, (name, handed))

    def test_nothing_is_printed(self):
        out = io.StringIO()
        with contextlib.redirect_stdout(out), contextlib.redirect_stderr(out):
            for name, handed, _ in CALLS:
                called(name, copied(handed))
        self.assertEqual(out.getvalue(), "")

    def test_nothing_is_imported(self):
        before = set(sys.modules)
        for name, handed, _ in CALLS:
            called(name, copied(handed))
        self.assertEqual(set(sys.modules), before)


class HandedIn(unittest.TestCase):
    def test_is_as_it_was_afterwards(self):
        for name, handed, _ in CALLS:
            mine = copied(handed)
            called(name, mine)
            self.assertEqual(mine, handed, name)

    def test_is_as_it_was_at_every_step(self):
        for name, handed, _ in CALLS:
            mine = copied(handed)
            changed = []

            def look(frame, event, argument):
                if mine != handed:
                    changed.append(frame.f_lineno)
                return look

            before = sys.gettrace()
            sys.settrace(look)
            try:
                called(name, mine)
            finally:
                sys.settrace(before)
            self.assertEqual(changed, [], (name, handed))

    def test_one_list_handed_in_twice(self):
        shared = [0, 1]
        self.assertEqual(graph.min_moves(2, 1, 1, shared, shared), [0])
        self.assertEqual(graph.max_pebbles_at(2, 0, shared, shared), [0])
        self.assertEqual(graph.shortest_sequence(2, 1, 1, shared, shared), [0])
        self.assertEqual(graph.reachable_vertices(2, shared, shared), [1, 1])
        self.assertEqual(graph.weight_at(2, 0, shared, shared), [0, 1, 2])
        self.assertEqual(graph.count_configurations(2, shared, shared), [1, 1])
        self.assertEqual(graph.apply_moves(2, shared, shared, shared), [0, 0, 1])
        self.assertEqual(shared, [0, 1])


class NothingIsKept(unittest.TestCase):
    def test_an_answer_is_a_new_list(self):
        for name, handed, expected in CALLS:
            mine = copied(handed)
            first = called(name, mine)
            second = called(name, mine)
            self.assertIsNot(first, second)
            for value in mine:
                self.assertIsNot(first, value)
            first.append(7)
            first[0] = 99
            self.assertEqual(second, expected)
            self.assertEqual(called(name, mine), expected)
            self.assertEqual(mine, handed)

    def test_the_same_answer_after_whatever_other_call(self):
        for earlier, handed_earlier, expected_earlier in CALLS:
            for name, handed, expected in CALLS:
                self.assertEqual(called(earlier, copied(handed_earlier)), expected_earlier)
                self.assertEqual(called(name, copied(handed)), expected, (name, handed, earlier, handed_earlier))

    def test_lists_that_the_caller_changes_between_calls(self):
        edges = [0, 1, 1, 2]
        pebbles = [4, 0, 0]
        moves = [0, 1, 1, 2]

        def answers():
            return [
                graph.min_moves(3, 2, 1, edges, pebbles),
                graph.max_pebbles_at(3, 2, edges, pebbles),
                graph.shortest_sequence(3, 2, 1, edges, pebbles),
                graph.reachable_vertices(3, edges, pebbles),
                graph.weight_at(3, 2, edges, pebbles),
                graph.count_configurations(3, edges, pebbles),
                graph.apply_moves(3, edges, pebbles, moves),
            ]

        expected = [[3], [1], [3, 0, 1, 0, 1, 1, 2], [3, 0, 1, 2], [0, 1, 1], [4, 5], [1, 2, 1, 0]]
        self.assertEqual(answers(), expected)
        pebbles[1] = 2
        expected = [[1], [2], [1, 1, 2], [3, 0, 1, 2], [0, 2, 1], [6, 13], [2, 2, 1, 1]]
        self.assertEqual(answers(), expected)
        moves[3] = 0
        self.assertEqual(answers(), expected[:6] + [[2, 3, 1, 0]])
        edges.pop()
        self.assertEqual(answers(), [[-22]] * 7)
        edges.pop()
        expected = [[-33], [0], [-33], [2, 0, 1], [0, 0, 1], [6, 8], [2, 3, 1, 0]]
        self.assertEqual(answers(), expected)
        moves.pop()
        self.assertEqual(answers(), expected[:6] + [[-22]])
        moves.pop()
        edges[1] = 2
        expected = [[1], [2], [1, 0, 2], [3, 0, 1, 2], [0, 2, 1], [4, 4], [0, 4, 2, 0]]
        self.assertEqual(answers(), expected)


if __name__ == "__main__":
    unittest.main()
