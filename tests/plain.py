"""Graphs, configurations and plain searches for the tests; they share nothing with the program."""

import itertools

LARGER_CASES = [
    (5, (0, 1, 1, 2, 2, 3, 3, 4), (8, 4, 0, 0, 0)),
    (5, (0, 1, 1, 2, 2, 3, 3, 4), (5, 0, 1, 1, 4)),
    (5, (0, 1, 0, 4, 1, 2, 2, 3, 3, 4), (0, 0, 6, 5, 1)),
    (5, (0, 1, 0, 4, 1, 2, 2, 3, 3, 4), (1, 3, 2, 3, 1)),
    (5, (0, 1, 0, 2, 0, 3, 0, 4), (0, 3, 3, 3, 3)),
    (5, (0, 1, 0, 2, 1, 2, 3, 4), (3, 5, 0, 3, 1)),
    (5, (0, 2, 1, 2, 2, 3, 3, 4), (5, 5, 1, 1, 0)),
    (5, (0, 1, 0, 2, 0, 3, 0, 4, 1, 2, 1, 3, 1, 4, 2, 3, 2, 4, 3, 4), (0, 3, 3, 3, 3)),
    (5, (0, 3, 0, 4, 1, 2, 1, 3, 2, 4), (0, 7, 2, 1, 1)),
    (5, (0, 3, 0, 4, 1, 2, 2, 3, 2, 4), (1, 3, 1, 1, 2)),
    (5, (0, 1, 0, 3, 0, 4, 1, 2, 1, 3, 1, 4), (1, 3, 2, 0, 2)),
    (5, (0, 2, 0, 3, 0, 4, 1, 2, 1, 4, 3, 4), (0, 3, 3, 3, 0)),
    (4, (0, 1, 0, 3, 1, 2, 2, 3), (7, 3, 0, 1)),
    (4, (0, 1, 0, 2, 1, 2, 2, 3), (9, 2, 1, 0)),
    (3, (0, 1, 1, 2), (10, 1, 1)),
    (2, (0, 1), (5, 7)),
    (1, (), (12,)),
]


def graphs(vertex_count):
    """Every graph with that many vertices, as a list of endpoints in order."""
    pairs = list(itertools.combinations(range(vertex_count), 2))
    for size in range(len(pairs) + 1):
        for chosen in itertools.combinations(pairs, size):
            yield [vertex for pair in chosen for vertex in pair]


def configurations(vertex_count, most):
    """Every configuration with at most that many pebbles."""
    for pebbles in itertools.product(range(most + 1), repeat=vertex_count):
        if sum(pebbles) <= most:
            yield list(pebbles)


def directions(edges):
    pairs = list(zip(edges[0::2], edges[1::2]))
    return pairs + [(v, u) for u, v in pairs]


def moved(pebbles, source, destination):
    after = list(pebbles)
    after[source] -= 2
    after[destination] += 1
    return tuple(after)


def next_configurations(edges, pebbles):
    """Every possible move, with the configuration that it leads to."""
    return [(move, moved(pebbles, *move)) for move in directions(edges) if pebbles[move[0]] >= 2]


def all_sequences(edges, pebbles, done=()):
    """Every sequence of moves, one by one, with the configuration at its end."""
    yield done, tuple(pebbles)
    for move, after in next_configurations(edges, pebbles):
        yield from all_sequences(edges, after, done + (move,))


def nonempty_levels(edges, pebbles):
    """For each number of moves, the set of the configurations that exactly so many moves lead to."""
    levels = [{tuple(pebbles)}]
    while levels[-1]:
        levels.append({after for before in levels[-1] for _, after in next_configurations(edges, before)})
    return levels[:-1]
