"""A move of a node, its place in the order of time, and the location that it asks for."""


class Move:
    """One move; its counter and its origin, the replica that made it, are its timestamp."""

    def __init__(self, number, counter, origin, node, parent, label):
        self.number = number
        self.counter = counter
        self.origin = origin
        self.node = node
        self.parent = parent
        self.label = label


def timestamp(move):
    """Return the timestamp as a pair that compares as timestamps do."""
    return (move.counter, move.origin)


def target(move):
    """Return the location at which the node is once the move has taken effect."""
    return (move.parent, move.label)
