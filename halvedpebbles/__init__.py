"""Graph pebbling: moves and reachability. The functions stand in halvedpebbles.graph."""
