"""Graph pebbling: how many pebbles can be brought to a vertex, and with how few moves.

A graph is handed in as one list with the two endpoints of each edge, a configuration as
the list of the pebbles on each vertex. Every operation answers a new list of whole
numbers; an error code is the only number of its answer.
"""

MAX_VERTICES = 5
MAX_PEBBLES = 12


def edges_fit(vertex_count, edges):
    """Tell whether the edges are pairs u < v of vertices in strictly increasing order."""
    if len(edges) % 2 != 0:
        return False
    # No pair with u < v stands as low as this one, so the first edge needs no case of its own.
    previous = (0, 0)
    for k in range(0, len(edges), 2):
        pair = (edges[k], edges[k + 1])
        if pair[0] >= pair[1] or pair[1] >= vertex_count or pair <= previous:
            return False
        previous = pair
    return True


def pebbles_fit(vertex_count, pebbles):
    """Tell whether there is one number for each vertex and the sum is not too large."""
    return len(pebbles) == vertex_count and sum(pebbles) <= MAX_PEBBLES


def limits_error(vertex_count, edges, pebbles):
    """Answer -22 if the graph or the configuration is outside its limits, else 0."""
    if vertex_count < 1 or vertex_count > MAX_VERTICES:
        return -22
    if not edges_fit(vertex_count, edges):
        return -22
    if not pebbles_fit(vertex_count, pebbles):
        return -22
    return 0


def target_error(vertex_count, target, edges, pebbles):
    """Answer the first error of a call that names a target: -22 or -2, else 0."""
    error = limits_error(vertex_count, edges, pebbles)
    if error != 0:
        return error
    if target >= vertex_count:
        return -2
    return 0


def moves_along(edges):
    """List the moves along every edge, both ways, each as source and destination."""
    moves = []
    for k in range(0, len(edges), 2):
        moves.append((edges[k], edges[k + 1]))
        moves.append((edges[k + 1], edges[k]))
    return moves


def after_move(configuration, move):
    """Answer the configuration that a possible move leads to."""
    pebbles = list(configuration)
    pebbles[move[0]] = pebbles[move[0]] - 2
    pebbles[move[1]] = pebbles[move[1]] + 1
    return tuple(pebbles)


def next_level(level, moves):
    """List the different configurations that one more move leads to.

    Every move takes one pebble off the graph, so a configuration cannot come up again
    at a later level, and after at most as many levels as there are pebbles none is left.
    """
    found = {}
    for configuration in level:
        for move in moves:
            if configuration[move[0]] >= 2:
                found[after_move(configuration, move)] = True
    return list(found)


def most_at(level, target):
    """Answer the largest number of pebbles on the target in a level that is not empty."""
    return max([configuration[target] for configuration in level])


def min_moves(vertex_count, target, count, edges, pebbles):
    """Answer the smallest number of moves after which the target has count pebbles."""
    error = target_error(vertex_count, target, edges, pebbles)
    if error != 0:
        return [error]
    moves = moves_along(edges)
    level = [tuple(pebbles)]
    move_count = 0
    while len(level) > 0:
        if most_at(level, target) >= count:
            return [move_count]
        level = next_level(level, moves)
        move_count = move_count + 1
    return [-33]


def max_pebbles_at(vertex_count, target, edges, pebbles):
    """Answer the largest number of pebbles that any number of moves puts on the target."""
    error = target_error(vertex_count, target, edges, pebbles)
    if error != 0:
        return [error]
    moves = moves_along(edges)
    level = [tuple(pebbles)]
    most = 0
    while len(level) > 0:
        most = max(most, most_at(level, target))
        level = next_level(level, moves)
    return [most]
