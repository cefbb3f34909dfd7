import random
import unittest

from tests.asking import GREATEST, ancestors, ask, begin, deliver, lasts, move, sync, tree_at

WRONG = [
    begin(0), begin(9), begin(GREATEST),
    move(8, 2, 0), move(GREATEST, 0, 64), move(0, 0, 0), move(0, 1, 0), move(1, 64, 0), move(0, 2, 64),
    move(1, 2, 0, 1000000001), move(2, GREATEST, GREATEST, GREATEST),
    deliver(80, 0), deliver(0, 8), deliver(GREATEST, GREATEST),
    sync(0, 8), sync(8, 0), sync(GREATEST, GREATEST),
    tree_at(8, 0), tree_at(0, 81), tree_at(GREATEST, GREATEST),
    ancestors(8, 0, 0), ancestors(0, 81, 0), ancestors(0, 0, 2), ancestors(1, 0, 64),
]


def any_move(chance, replicas, nodes):
    return move(chance.randrange(replicas), chance.randrange(2, nodes), chance.randrange(nodes), chance.randrange(100))


def any_session(chance, replicas, length, nodes=8):
    """Return calls that change something, begin at their head; every move that is delivered is there by then."""
    calls = [begin(replicas)]
    made = 0
    for step in range(length):
        kind = chance.randrange(5)
        if kind < 2 or made == 0:
            calls.append(any_move(chance, replicas, nodes))
            made += 1
        elif kind < 4:
            calls.append(deliver(chance.randrange(made), chance.randrange(replicas)))
        else:
            calls.append(sync(chance.randrange(replicas), chance.randrange(replicas)))
    return calls


def all_views(replicas, most):
    return [tree_at(replica, i) for replica in range(replicas) for i in range(most + 1)]


class SameMovesSameTree(unittest.TestCase):
    def test_in_whatever_order_they_are_learned(self):
        for seed in range(60):
            chance = random.Random(seed)
            calls = any_session(chance, 3, 30)
            calls[0] = begin(5)
            made = len([call for call in calls if call[0] == 2])
            some = chance.sample(range(made), chance.randrange(1, made + 1))
            for reader in (3, 4):
                chance.shuffle(some)
                calls = calls + [deliver(number, reader) for number in some]
            stamps = [(GREATEST, GREATEST)] + [(counter, origin) for counter in range(9) for origin in range(3)]
            asked = [
                lasts(calls, [tree_at(reader, len(some), counter, origin) for counter, origin in stamps]
                      + [ancestors(reader, len(some), node) for node in range(9)])
                for reader in (3, 4)]
            self.assertEqual(asked[0], asked[1], seed)

    def test_when_all_know_all(self):
        for seed in range(30):
            calls = any_session(random.Random(seed), 4, 30)
            made = len([call for call in calls if call[0] == 2])
            calls += [sync(0, other) for other in (1, 2, 3, 1, 2)]
            trees = lasts(calls, [tree_at(replica, made) for replica in range(4)])
            self.assertEqual(trees, trees[:1] * 4, seed)


class EarlierViewsStay(unittest.TestCase):
    def test_whatever_comes_later(self):
        for seed in range(30):
            calls = any_session(random.Random(seed), 3, 24)
            views = all_views(3, 12)
            at_the_end = lasts(calls, views)
            for length in range(1, len(calls)):
                for then, now in zip(lasts(calls[:length], views), at_the_end):
                    if then != [-1]:
                        self.assertEqual(then, now, (seed, length))


class ErrorsChangeNothing(unittest.TestCase):
    def test_among_other_calls(self):
        for seed in range(30):
            chance = random.Random(seed)
            calls = any_session(chance, 3, 24)
            views = all_views(3, 12)
            mixed = []
            right = []
            for call in calls + views:
                for wrong in chance.sample(WRONG, chance.randrange(3)):
                    # Until the first begin there is one replica, where the same calls are wrong.
                    mixed.append(wrong)
                    right.append(False)
                mixed.append(call)
                right.append(True)
            asked = ask(mixed)
            self.assertEqual([part for part, sure in zip(asked, right) if sure], ask(calls + views), seed)
            self.assertTrue(all(len(part) == 1 and part[0] < 0 for part, sure in zip(asked, right) if not sure), seed)


if __name__ == "__main__":
    unittest.main()
