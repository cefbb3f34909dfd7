"""Compares the answers with those of a second, slow program that follows the document word by word."""

import random
import unittest

from tests.asking import (
    GREATEST, ancestors, ask, begin, deliver, differences, history, known, move, moved_by, since, surprises, sync,
    tree_at)


class Slow:
    """What the document tells, with no regard to time: each view is worked out from the first move on."""

    def __init__(self):
        self.made = []
        self.known = {0: []}

    def answer(self, call):
        operations = [
            self.begin, self.move, self.deliver, self.sync, self.tree_at, self.ancestors, self.moved_by,
            self.differences, self.history, self.since, self.surprises, self.list_known]
        return operations[call[0] - 1](*call[1:])

    def begin(self, replicas):
        if not 1 <= replicas <= 8:
            return [-1]
        self.made = []
        self.known = {replica: [] for replica in range(replicas)}
        return [0]

    def move(self, replica, node, parent, label):
        if replica not in self.known:
            return [-2]
        if not (2 <= node <= 63 and 0 <= parent <= 63 and 0 <= label <= 1000000000):
            return [-1]
        if len(self.made) >= 80:
            return [-5]
        counter = 1
        for number in self.known[replica]:
            counter = max(counter, self.made[number][0] + 1)
        self.made.append((counter, replica, node, parent, label))
        self.known[replica].append(len(self.made) - 1)
        outcomes = self.result(self.known[replica])[2]
        return [len(self.made) - 1, counter, outcomes[len(self.made) - 1]]

    def deliver(self, number, replica):
        if number >= len(self.made) or replica not in self.known:
            return [-2]
        self.known[replica] += [number] if number not in self.known[replica] else []
        return [len(self.known[replica])]

    def sync(self, replica, other):
        if replica not in self.known or other not in self.known:
            return [-2]
        before = {replica: list(self.known[replica]), other: list(self.known[other])}
        learned = {}
        for here, there in ((replica, other), (other, replica)):
            missing = [(self.made[number][:2], number) for number in before[there] if number not in before[here]]
            learned[here] = len(missing)
            for stamp, number in sorted(missing):
                self.known[here].append(number)
        return [len(self.known[replica]), learned[replica], learned[other]]

    def view(self, replica, i, counter, origin):
        numbers = []
        for number in self.known[replica][:i]:
            stamp_counter, stamp_origin = self.made[number][:2]
            if stamp_counter < counter or (stamp_counter == counter and stamp_origin <= origin):
                numbers.append(number)
        return self.result(numbers)

    def result(self, numbers):
        parents = {0: None, 1: None}
        labels = {}
        outcomes = {}
        for stamp, number in sorted([(self.made[number][:2], number) for number in numbers]):
            node, parent, label = self.made[number][2:]
            if parent not in parents:
                outcomes[number] = 2
            elif parent == node or self.is_below(parents, parent, node):
                outcomes[number] = 3
            else:
                outcomes[number] = 1
                parents[node] = parent
                labels[node] = label
        return parents, labels, outcomes

    def is_below(self, parents, node, other):
        if parents.get(node) is None:
            return False
        return parents[node] == other or self.is_below(parents, parents[node], other)

    def refusal(self, replica, i):
        if replica not in self.known:
            return [-2]
        return [-1] if len(self.known[replica]) < i else None

    def tree_at(self, replica, i, counter, origin):
        refusal = self.refusal(replica, i)
        if refusal:
            return refusal
        parents, labels, outcomes = self.view(replica, i, counter, origin)
        listed = self.below(parents, labels, 0, 1)
        return [len(listed) // 3] + listed

    def below(self, parents, labels, node, depth):
        listed = []
        for child in range(64):
            if parents.get(child) == node:
                listed += [child, depth, labels[child]] + self.below(parents, labels, child, depth + 1)
        return listed

    def ancestors(self, replica, i, counter, origin, node):
        refusal = self.refusal(replica, i)
        if refusal:
            return refusal
        parents = self.view(replica, i, counter, origin)[0]
        if node not in parents:
            return [-3]
        path = [node]
        while path[-1] > 1:
            path.append(parents[path[-1]])
        return [len(path)] + path

    def location(self, result, node):
        parents, labels, outcomes = result
        return (parents[node], labels[node]) if node in labels else None

    def effective(self, outcomes, node):
        """Return timestamp and number of the moves of the node with the outcome 1, the earliest first."""
        return sorted([(self.made[number][:2], number) for number in outcomes
                       if outcomes[number] == 1 and self.made[number][2] == node])

    def moved_by(self, replica, i, counter, origin, node):
        refusal = self.refusal(replica, i)
        if refusal:
            return refusal
        result = self.view(replica, i, counter, origin)
        if self.location(result, node) is None:
            return [-3]
        number = self.effective(result[2], node)[-1][1]
        counter, origin, node, parent, label = self.made[number]
        return [number, counter, origin, parent, label]

    def changed(self, result, other):
        return [node for node in range(64) if self.location(result, node) != self.location(other, node)]

    def differences(self, replica, i, counter, origin, j, counter2, origin2):
        refusal = self.refusal(replica, max(i, j))
        if refusal:
            return refusal
        nodes = self.changed(self.view(replica, i, counter, origin), self.view(replica, j, counter2, origin2))
        return [len(nodes)] + nodes

    def saw(self, replica):
        """Return what the replica saw after no move, after one, and so on up to now."""
        return [self.result(self.known[replica][:i]) for i in range(len(self.known[replica]) + 1)]

    def history(self, replica, node):
        if replica not in self.known:
            return [-2]
        answer = []
        for stamp, number in self.effective(self.saw(replica)[-1][2], node):
            answer += [number, self.made[number][3], self.made[number][4]]
        return [len(answer) // 3] + answer

    def since(self, replica, node):
        if replica not in self.known:
            return [-2]
        if node > 63:
            return [-1]
        locations = [self.location(result, node) for result in self.saw(replica)]
        return [min(i for i in range(len(locations)) if set(locations[i:]) == {locations[-1]})]

    def surprises(self, replica):
        if replica not in self.known:
            return [-2]
        saw = self.saw(replica)
        positions = []
        for i, number in enumerate(self.known[replica]):
            node, parent, label = self.made[number][2:]
            changed = self.changed(saw[i], saw[i + 1])
            another = [one for one in changed if one != node]
            elsewhere = node in changed and self.location(saw[i + 1], node) != (parent, label)
            if another or elsewhere:
                positions.append(i)
        return [len(positions)] + positions

    def list_known(self, replica):
        if replica not in self.known:
            return [-2]
        return [len(self.known[replica])] + self.known[replica]


def number(chance, end):
    """Return mostly a number below the end, and now and then the end or one far off."""
    kind = chance.randrange(40)
    if kind == 0:
        return chance.choice((end, end + 1, 2 ** 32, 2 ** 63, GREATEST))
    return chance.randrange(end)


def stamp(chance):
    if chance.randrange(3) == 0:
        return GREATEST, GREATEST
    return number(chance, 20), number(chance, 8)


def any_call(chance, replicas, nodes, moves):
    kind = chance.randrange(200)
    replica = number(chance, replicas)
    if kind == 0:
        return begin(number(chance, 9))
    if kind < 70:
        # Few labels make it likely that a node comes again to a location at which it was.
        label = number(chance, chance.choice((2, 1000000001)))
        return move(replica, 2 + number(chance, nodes - 2), number(chance, nodes), label)
    if kind < 105:
        return deliver(number(chance, moves + 1), replica)
    if kind < 110:
        return sync(replica, number(chance, replicas))
    return any_question(chance, replica, nodes, moves)


def any_question(chance, replica, nodes, moves):
    i = number(chance, moves // 2 + 1)
    counter, origin = stamp(chance)
    node = number(chance, nodes)
    return chance.choice((
        tree_at(replica, i, counter, origin),
        ancestors(replica, i, node, counter, origin),
        moved_by(replica, i, node, counter, origin),
        differences(replica, i, number(chance, moves // 2 + 1), (counter, origin), stamp(chance)),
        history(replica, node),
        since(replica, node),
        surprises(replica),
        known(replica)))


def any_calls(chance):
    replicas = chance.randrange(1, 9)
    nodes = chance.choice((4, 6, 10, 64))
    calls = [begin(replicas)]
    for step in range(199):
        moves = min(80, len([call for call in calls if call[0] == 2]))
        calls.append(any_call(chance, replicas, nodes, moves))
    return calls


class AgainstSlow(unittest.TestCase):
    def test_many_sessions(self):
        for seed in range(300):
            calls = any_calls(random.Random(seed))
            slow = Slow()
            for call, answer in zip(calls, ask(calls)):
                self.assertEqual(answer, slow.answer(call), (seed, call))


if __name__ == "__main__":
    unittest.main()
