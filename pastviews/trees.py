"""The tree that results from moves, and what can be read from it.

A tree is a dict from each node that has a location to this location: its parent and its label.
The root and the bin have none, so they are never in the dict, and an empty dict is the first tree.
"""

from pastviews.moves import target, timestamp

ROOT = 0
BIN = 1

MOVED = 1
PARENT_MISSING = 2
PARENT_WITHIN_NODE = 3


def exists(tree, node):
    """Tell whether the node exists in the tree."""
    return node in (ROOT, BIN) or node in tree


def path_up(tree, node):
    """Return the nodes from an existing node up to the root or the bin."""
    path = [node]
    while path[-1] in tree:
        path.append(tree[path[-1]][0])
    return path


def outcome_of(tree, move):
    """Return the outcome that the move has if it is carried out on this tree."""
    if not exists(tree, move.parent):
        return PARENT_MISSING
    if move.node in path_up(tree, move.parent):
        return PARENT_WITHIN_NODE
    return MOVED


def effective_moves(moves):
    """Return those of the moves that have the outcome 1 among them, in the order of the timestamps."""
    tree = {}
    effective = []
    for move in sorted(moves, key=timestamp):
        if outcome_of(tree, move) == MOVED:
            tree[move.node] = target(move)
            effective.append(move)
    return effective


def effective_moves_of(moves, node):
    """Return those of the effective moves that concern this node, in the order of the timestamps."""
    return [move for move in effective_moves(moves) if move.node == node]


def tree_of(moves):
    """Return the tree that results from the moves, which may come in any order."""
    tree = {}
    for move in effective_moves(moves):
        tree[move.node] = target(move)
    return tree


def nodes_that_differ(tree, other):
    """Return the nodes that have different locations in two trees, or one in only one of them, ascending."""
    return [node for node in sorted(set(tree) | set(other)) if tree.get(node) != other.get(node)]


def has_surprised(move, before, after):
    """Tell whether learning of the move has changed the tree in another way than the move asks for."""
    return any([node != move.node or after.get(node) != target(move) for node in nodes_that_differ(before, after)])


def descending_children(tree):
    """Return a dict from each node that has children to these, the greatest first."""
    children = {}
    for node in sorted(tree, reverse=True):
        children.setdefault(tree[node][0], []).append(node)
    return children


def rows_below_root(tree):
    """Return node, depth and label of each node below the root, each followed by what is below it."""
    children = descending_children(tree)
    # The last one that waits comes first, so the greatest child has to be put there first.
    waiting = [(node, 1) for node in children.get(ROOT, [])]
    rows = []
    while waiting:
        node, depth = waiting.pop()
        rows.append((node, depth, tree[node][1]))
        waiting.extend([(child, depth + 1) for child in children.get(node, [])])
    return rows
