"""A session: the moves that have been made, what each replica knows, and the operations."""

from pastviews.moves import Move, timestamp
from pastviews.refusals import NodeNotThere, NoSuchThing, OutOfRange, TooManyMoves
from pastviews.trees import (
    BIN, ROOT, effective_moves_of, exists, has_surprised, nodes_that_differ, outcome_of, path_up, rows_below_root,
    tree_of)

MOST_REPLICAS = 8
MOST_MOVES = 80
LAST_NODE = 63
GREATEST_LABEL = 1000000000


class Session:
    """The state that the operations work on.

    Each operation gives back its answer as a list of numbers, or raises a refusal.
    All that can be refused is refused ahead of the first change.
    """

    def __init__(self):
        self.moves = []
        # For each replica the numbers of the moves that it knows, in the order of learning.
        self.learned = [[]]

    def begin(self, replicas):
        """Begin anew with this number of replicas."""
        if replicas < 1 or replicas > MOST_REPLICAS:
            raise OutOfRange()
        self.moves = []
        self.learned = [[] for replica in range(replicas)]
        return [0]

    def move(self, replica, node, parent, label):
        """Make a move at a replica."""
        known = self.moves_known_by(replica)
        if node in (ROOT, BIN) or node > LAST_NODE or parent > LAST_NODE or label > GREATEST_LABEL:
            raise OutOfRange()
        if len(self.moves) == MOST_MOVES:
            raise TooManyMoves()
        counter = max([move.counter for move in known], default=0) + 1
        made = Move(len(self.moves), counter, replica, node, parent, label)
        # The new move is later than all that the replica knows, so it is carried out on their tree.
        outcome = outcome_of(tree_of(known), made)
        self.moves.append(made)
        self.learned[replica].append(made.number)
        return [made.number, counter, outcome]

    def deliver(self, number, replica):
        """Deliver one move to a replica."""
        self.check_replica(replica)
        if number >= len(self.moves):
            raise NoSuchThing()
        if number not in self.learned[replica]:
            self.learned[replica].append(number)
        return [len(self.learned[replica])]

    def sync(self, replica, other):
        """Let each of two replicas learn what only the other one knew before."""
        self.check_replica(replica)
        self.check_replica(other)
        news = self.news_for(replica, other)
        other_news = self.news_for(other, replica)
        self.learned[replica].extend(news)
        self.learned[other].extend(other_news)
        return [len(self.learned[replica]), len(news), len(other_news)]

    def tree_at(self, replica, i, counter, origin):
        """List the nodes below the root in a view."""
        rows = rows_below_root(tree_of(self.view(replica, i, counter, origin)))
        answer = [len(rows)]
        for row in rows:
            answer.extend(row)
        return answer

    def ancestors(self, replica, i, counter, origin, node):
        """List the nodes from this node up to the root or the bin in a view."""
        tree = tree_of(self.view(replica, i, counter, origin))
        if not exists(tree, node):
            raise NodeNotThere()
        path = path_up(tree, node)
        return [len(path)] + path

    def moved_by(self, replica, i, counter, origin, node):
        """Show the move that has put the node at its location in a view."""
        effective = effective_moves_of(self.view(replica, i, counter, origin), node)
        if not effective:
            raise NodeNotThere()
        mover = effective[-1]
        return [mover.number, mover.counter, mover.origin, mover.parent, mover.label]

    def differences(self, replica, i, counter, origin, j, counter2, origin2):
        """List the nodes that have different locations in two views of a replica."""
        tree = tree_of(self.view(replica, i, counter, origin))
        other = tree_of(self.view(replica, j, counter2, origin2))
        nodes = nodes_that_differ(tree, other)
        return [len(nodes)] + nodes

    def history(self, replica, node):
        """List the moves of this node that have an effect among all that the replica knows."""
        effective = effective_moves_of(self.moves_known_by(replica), node)
        answer = [len(effective)]
        for move in effective:
            answer.extend([move.number, move.parent, move.label])
        return answer

    def since(self, replica, node):
        """Tell after how many moves the replica began to see the node where it has seen it ever since."""
        known = self.moves_known_by(replica)
        if node > LAST_NODE:
            raise OutOfRange()
        location = tree_of(known).get(node)
        i = len(known)
        while i > 0 and tree_of(known[:i - 1]).get(node) == location:
            i -= 1
        return [i]

    def surprises(self, replica):
        """List the positions of the moves that have surprised the replica."""
        known = self.moves_known_by(replica)
        positions = []
        before = {}
        for position, move in enumerate(known):
            after = tree_of(known[:position + 1])
            if has_surprised(move, before, after):
                positions.append(position)
            before = after
        return [len(positions)] + positions

    def known(self, replica):
        """List the numbers of the moves that a replica knows, in the order of learning."""
        self.check_replica(replica)
        return [len(self.learned[replica])] + self.learned[replica]

    def check_replica(self, replica):
        """Refuse the number of a replica that does not exist."""
        if replica >= len(self.learned):
            raise NoSuchThing()

    def moves_known_by(self, replica):
        """Return the moves that a replica knows, in the order in which it has learned of them."""
        self.check_replica(replica)
        return [self.moves[number] for number in self.learned[replica]]

    def news_for(self, replica, source):
        """Return the numbers of the moves that only the source knows, in the order of the timestamps."""
        old = self.learned[replica]
        news = [self.moves[number] for number in self.learned[source] if number not in old]
        return [move.number for move in sorted(news, key=timestamp)]

    def view(self, replica, i, counter, origin):
        """Return the moves of a view, in the order in which the replica has learned of them."""
        known = self.moves_known_by(replica)
        if i > len(known):
            raise OutOfRange()
        return [move for move in known[:i] if timestamp(move) <= (counter, origin)]
