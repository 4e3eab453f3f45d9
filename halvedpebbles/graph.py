"""Graph pebbling: how many pebbles can be brought to a vertex, with how few moves, and their weight.

A graph is handed in as one list with the two endpoints of each edge, a configuration as
the list of the pebbles on each vertex. Every operation answers a new list of whole
numbers; an error code is the only number of its answer.
"""

MAX_VERTICES = 5
MAX_PEBBLES = 12
MAX_MOVES = 15
# No distance is longer than MAX_VERTICES - 1 = 4, so these parts can be halved at every edge.
PARTS_OF_A_PEBBLE = 16


def edges_fit(vertex_count, edges):
    """Tell whether the edges are pairs u < v of vertices in strictly increasing order."""
    if len(edges) % 2 != 0:
        return False
    # No pair with u < v stands as low as this one, so the first edge needs no case of its own.
    previous = (0, 0)
    for k in range(0, len(edges), 2):
        pair = (edges[k], edges[k + 1])
        if pair[0] >= pair[1] or pair[1] >= vertex_count or pair <= previous:
            return False
        previous = pair
    return True


def pebbles_fit(vertex_count, pebbles):
    """Tell whether there is one number for each vertex and the sum is not too large."""
    return len(pebbles) == vertex_count and sum(pebbles) <= MAX_PEBBLES


def moves_fit(vertex_count, moves):
    """Tell whether the moves are pairs of vertices, adjacent or not, and not too many."""
    if len(moves) % 2 != 0 or len(moves) > 2 * MAX_MOVES:
        return False
    return all([vertex < vertex_count for vertex in moves])


def limits_error(vertex_count, edges, pebbles):
    """Answer -22 if the graph or the configuration is outside its limits, else 0."""
    if vertex_count < 1 or vertex_count > MAX_VERTICES:
        return -22
    if not edges_fit(vertex_count, edges):
        return -22
    if not pebbles_fit(vertex_count, pebbles):
        return -22
    return 0


def target_error(vertex_count, target, edges, pebbles):
    """Answer the first error of a call that names a target: -22 or -2, else 0."""
    error = limits_error(vertex_count, edges, pebbles)
    if error != 0:
        return error
    if target >= vertex_count:
        return -2
    return 0


def moves_along(edges):
    """List the moves along every edge, both ways, in order of source and then of target."""
    moves = []
    for k in range(0, len(edges), 2):
        moves.append((edges[k], edges[k + 1]))
        moves.append((edges[k + 1], edges[k]))
    return sorted(moves)


def after_move(configuration, move):
    """Answer the configuration that a possible move leads to."""
    pebbles = list(configuration)
    pebbles[move[0]] = pebbles[move[0]] - 2
    pebbles[move[1]] = pebbles[move[1]] + 1
    return tuple(pebbles)


def next_level(level, moves):
    """Answer the level that is one move further on.

    A level is a dict: each of its configurations, with the lexicographically first of the
    sequences of moves that lead to it, sources and targets in one row. If the configurations
    stand in the order of these sequences and the moves in order, too, each configuration is
    found by way of its first sequence first, so the next level stands in that order again.

    Every move takes one pebble off the graph, so a configuration cannot come up again
    at a later level, and after at most as many levels as there are pebbles none is left.
    """
    found = {}
    for configuration, sequence in level.items():
        for move in moves:
            if configuration[move[0]] >= 2:
                found.setdefault(after_move(configuration, move), sequence + move)
    return found


def nonempty_levels(edges, pebbles):
    """List the levels that hold a configuration, level 0 first."""
    moves = moves_along(edges)
    level = {tuple(pebbles): ()}
    levels = []
    while len(level) > 0:
        levels.append(level)
        level = next_level(level, moves)
    return levels


def most_at(levels, vertex):
    """Answer the largest number of pebbles on the vertex in any of the levels."""
    most = 0
    for level in levels:
        for configuration in level:
            most = max(most, configuration[vertex])
    return most


def first_shortest(target, count, edges, pebbles):
    """Answer the first of the shortest sequences that bring count pebbles to the target.

    The answer is None if there is none.
    """
    moves = moves_along(edges)
    level = {tuple(pebbles): ()}
    while len(level) > 0:
        for configuration, sequence in level.items():
            if configuration[target] >= count:
                return sequence
        level = next_level(level, moves)
    return None


def distances_to(target, edges):
    """Answer a dict: each vertex from which a path leads to the target, with its distance."""
    moves = moves_along(edges)
    distances = {target: 0}
    reached = [target]
    while len(reached) > 0:
        further = []
        for vertex, neighbour in moves:
            if vertex in reached and neighbour not in distances:
                distances[neighbour] = distances[vertex] + 1
                further.append(neighbour)
        reached = further
    return distances


def weight_in_parts(target, edges, pebbles):
    """Answer the weight of the configuration at the target, counted in parts of a pebble."""
    parts = 0
    for vertex, distance in distances_to(target, edges).items():
        parts = parts + pebbles[vertex] * (PARTS_OF_A_PEBBLE >> distance)
    return parts


def lowest_terms(numerator, denominator):
    """Answer the same fraction in lowest terms, if the denominator is a power of two."""
    while denominator > 1 and numerator % 2 == 0:
        numerator = numerator // 2
        denominator = denominator // 2
    return [numerator, denominator]


def performed(edges, pebbles, moves):
    """Perform the moves up to the first one that is not possible.

    The answer is how many were performed, then the configuration at the end, in one list.
    """
    moves_of_graph = moves_along(edges)
    configuration = tuple(pebbles)
    move_count = 0
    for k in range(0, len(moves), 2):
        move = (moves[k], moves[k + 1])
        if move not in moves_of_graph or configuration[move[0]] < 2:
            break
        configuration = after_move(configuration, move)
        move_count = move_count + 1
    return [move_count] + list(configuration)


def min_moves(vertex_count, target, count, edges, pebbles):
    """Answer the smallest number of moves after which the target has count pebbles."""
    # The errors of both operations are the same, and the number of moves is answered first there.
    return shortest_sequence(vertex_count, target, count, edges, pebbles)[:1]


def max_pebbles_at(vertex_count, target, edges, pebbles):
    """Answer the largest number of pebbles that any number of moves puts on the target."""
    error = target_error(vertex_count, target, edges, pebbles)
    if error != 0:
        return [error]
    return [most_at(nonempty_levels(edges, pebbles), target)]


def shortest_sequence(vertex_count, target, count, edges, pebbles):
    """Answer the result of min_moves, then the first sequence of that many moves to the goal."""
    error = target_error(vertex_count, target, edges, pebbles)
    if error != 0:
        return [error]
    sequence = first_shortest(target, count, edges, pebbles)
    if sequence is None:
        return [-33]
    return [len(sequence) // 2] + list(sequence)


def reachable_vertices(vertex_count, edges, pebbles):
    """Answer how many vertices some sequence of moves puts a pebble on, then these vertices."""
    error = limits_error(vertex_count, edges, pebbles)
    if error != 0:
        return [error]
    levels = nonempty_levels(edges, pebbles)
    vertices = [vertex for vertex in range(vertex_count) if most_at(levels, vertex) > 0]
    return [len(vertices)] + vertices


def weight_at(vertex_count, target, edges, pebbles):
    """Answer 0, then the numerator and the denominator of the weight at the target."""
    error = target_error(vertex_count, target, edges, pebbles)
    if error != 0:
        return [error]
    return [0] + lowest_terms(weight_in_parts(target, edges, pebbles), PARTS_OF_A_PEBBLE)


def count_configurations(vertex_count, edges, pebbles):
    """Answer the number of nonempty levels, then the number of configurations in all of them."""
    error = limits_error(vertex_count, edges, pebbles)
    if error != 0:
        return [error]
    levels = nonempty_levels(edges, pebbles)
    return [len(levels), sum([len(level) for level in levels])]


def apply_moves(vertex_count, edges, pebbles, moves):
    """Answer how many moves were performed, up to the first impossible one, then the configuration."""
    error = limits_error(vertex_count, edges, pebbles)
    if error != 0:
        return [error]
    if not moves_fit(vertex_count, moves):
        return [-22]
    return performed(edges, pebbles, moves)
