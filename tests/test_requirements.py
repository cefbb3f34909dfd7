import random
import unittest

from tests.asking import (
    GREATEST, NOT_THERE, ancestors, ask, begin, deliver, differences, history, known, lasts, move, moved_by, since,
    surprises, sync, tree_at)

NODES = 6
ALL_TIMES = (GREATEST, GREATEST)

WRONG = [
    begin(0), begin(9), begin(GREATEST),
    move(8, 2, 0), move(GREATEST, 0, 64), move(0, 0, 0), move(0, 1, 0), move(1, 64, 0), move(0, 2, 64),
    move(1, 2, 0, 1000000001), move(2, GREATEST, GREATEST, GREATEST),
    deliver(80, 0), deliver(0, 8), deliver(GREATEST, GREATEST),
    sync(0, 8), sync(8, 0), sync(GREATEST, GREATEST),
    tree_at(8, 0), tree_at(0, 81), tree_at(GREATEST, GREATEST),
    ancestors(8, 0, 0), ancestors(0, 81, 0), ancestors(0, 0, 2), ancestors(1, 0, 64),
    moved_by(8, 0, 2), moved_by(0, 81, 2), moved_by(0, 0, 2), moved_by(0, 0, 0), moved_by(0, 0, 1), moved_by(1, 0, 64),
    differences(8, 0, 0), differences(0, 81, 0), differences(0, 0, 81), differences(GREATEST, GREATEST, GREATEST),
    history(8, 2), history(GREATEST, GREATEST),
    since(8, 2), since(0, 64), since(GREATEST, GREATEST),
    surprises(8), surprises(GREATEST), known(8), known(GREATEST),
]


def any_move(chance, replicas, nodes):
    return move(chance.randrange(replicas), chance.randrange(2, nodes), chance.randrange(nodes), chance.randrange(4))


def any_session(chance, replicas, length, nodes=NODES):
    """Return calls that change something, begin at their head; every move that is delivered is there by then."""
    calls = [begin(replicas)]
    made = 0
    for step in range(length):
        kind = chance.randrange(20)
        if kind < 8 or made == 0:
            calls.append(any_move(chance, replicas, nodes))
            made += 1
        elif kind < 19:
            calls.append(deliver(chance.randrange(made), chance.randrange(replicas)))
        else:
            calls.append(sync(chance.randrange(replicas), chance.randrange(replicas)))
    return calls


def all_views(replicas, most):
    return [tree_at(replica, i) for replica in range(replicas) for i in range(most + 1)]


def questions_of_now(replica):
    return ([history(replica, node) for node in range(NODES)] + [since(replica, node) for node in range(NODES)]
            + [surprises(replica), known(replica)])


class Story:
    """What is known of a session, read from its answers."""

    def __init__(self, seed, length=50):
        self.chance = random.Random(seed)
        self.calls = any_session(self.chance, 3, length)
        # For each move, which has its number as its place here: the timestamp, the node and the location.
        self.moves = []
        for call, answer in zip(self.calls, ask(self.calls)):
            if call[0] == 2:
                self.moves.append(((answer[1], call[1]), call[2], (call[3], call[4])))

    def ask(self, questions):
        """Ask questions that may be too many for one list."""
        room = 200 - len(self.calls)
        answered = []
        for start in range(0, len(questions), room):
            answered += lasts(self.calls, questions[start:start + room])
        return answered

    def learned(self, replica):
        return self.ask([known(replica)])[0][1:]

    def movers(self, replica, i, stamp=ALL_TIMES):
        """Return for each node that moved_by tells something of in a view what it tells."""
        asked = self.ask([moved_by(replica, i, node, stamp[0], stamp[1]) for node in range(NODES)])
        return {node: answer for node, answer in enumerate(asked) if answer != NOT_THERE}

    def locations(self, replica, i, stamp=ALL_TIMES):
        return {node: tuple(answer[3:]) for node, answer in self.movers(replica, i, stamp).items()}

    def any_view(self, replica):
        """Return a number of moves and a timestamp."""
        i = self.chance.randrange(len(self.learned(replica)) + 1)
        times = [ALL_TIMES] + [entry[0] for entry in self.moves] * 2
        return i, self.chance.choice(times)


class Requirement(unittest.TestCase):
    def in_stories(self, count, check):
        for seed in range(count):
            story = Story(seed)
            for replica in range(3):
                with self.subTest(seed=seed, replica=replica):
                    check(story, replica)


class SameMovesSameTree(unittest.TestCase):
    """Point 1, its first half."""

    def test_in_whatever_order_they_are_learned(self):
        for seed in range(60):
            chance = random.Random(seed)
            calls = any_session(chance, 3, 30)
            calls[0] = begin(5)
            made = len([call for call in calls if call[0] == 2])
            some = chance.sample(range(made), chance.randrange(1, made + 1))
            for reader in (3, 4):
                chance.shuffle(some)
                calls = calls + [deliver(number, reader) for number in some]
            stamps = [(GREATEST, GREATEST)] + [(counter, origin) for counter in range(9) for origin in range(3)]
            asked = [
                lasts(calls, [tree_at(reader, len(some), counter, origin) for counter, origin in stamps]
                      + [ancestors(reader, len(some), node) for node in range(9)]
                      + [moved_by(reader, len(some), node) for node in range(9)]
                      + [differences(reader, len(some), 0, stamp) for stamp in stamps]
                      + [history(reader, node) for node in range(9)])
                for reader in (3, 4)]
            self.assertEqual(asked[0], asked[1], seed)

    def test_when_all_know_all(self):
        for seed in range(30):
            calls = any_session(random.Random(seed), 4, 30)
            made = len([call for call in calls if call[0] == 2])
            calls += [sync(0, other) for other in (1, 2, 3, 1, 2)]
            trees = lasts(calls, [tree_at(replica, made) for replica in range(4)])
            self.assertEqual(trees, trees[:1] * 4, seed)


class EarlierViewsStay(unittest.TestCase):
    """Point 1, its second half."""

    def test_whatever_comes_later(self):
        for seed in range(30):
            calls = any_session(random.Random(seed), 3, 24)
            views = all_views(3, 12)
            views += [moved_by(replica, i, 2 + i % 6) for replica in range(3) for i in range(1, 13)]
            views += [differences(replica, i, i // 2, (3, 1)) for replica in range(3) for i in range(13)]
            at_the_end = lasts(calls, views)
            for length in range(1, len(calls)):
                for then, now in zip(lasts(calls[:length], views), at_the_end):
                    if then != [-1]:
                        self.assertEqual(then, now, (seed, length))


class Movers(Requirement):
    """Point 2."""

    def test_in_any_view(self):
        self.in_stories(40, self.check)

    def check(self, story, replica):
        for turn in range(4):
            i, stamp = story.any_view(replica)
            movers = story.movers(replica, i, stamp)
            # The view of no moves has no location at all, so what differs from it is what has one.
            self.assertEqual(sorted(movers), story.ask([differences(replica, i, 0, stamp)])[0][1:])
            within = [number for number in story.learned(replica)[:i] if story.moves[number][0] <= stamp]
            for node, answer in movers.items():
                number = answer[0]
                self.assertIn(number, within)
                self.assertEqual(((answer[1], answer[2]), node, tuple(answer[3:])), story.moves[number])
                for other in within:
                    when = story.moves[other][0]
                    if story.moves[other][1] == node and when > story.moves[number][0]:
                        # An outcome hangs on earlier moves alone: cut off behind this one, it would be the mover.
                        self.assertNotEqual(story.movers(replica, i, when)[node][0], other)

    def test_parent_and_label_are_those_in_the_tree(self):
        self.in_stories(40, self.check_tree)

    def check_tree(self, story, replica):
        for turn in range(4):
            i, stamp = story.any_view(replica)
            listed = story.ask([tree_at(replica, i, stamp[0], stamp[1])])[0]
            labels = dict(zip(listed[1::3], listed[3::3]))
            locations = story.locations(replica, i, stamp)
            self.assertLessEqual(set(labels), set(locations))
            for node, location in locations.items():
                path = story.ask([ancestors(replica, i, node, stamp[0], stamp[1])])[0]
                self.assertEqual(location[0], path[2])
                self.assertEqual(labels.get(node), location[1] if path[-1] == 0 else None)


class Since(Requirement):
    """Point 3."""

    def test_of_every_node(self):
        self.in_stories(40, self.check)

    def check(self, story, replica):
        locations = [story.locations(replica, i) for i in range(len(story.learned(replica)) + 1)]
        for node, answer in enumerate(story.ask([since(replica, node) for node in range(NODES)])):
            seen = [tree.get(node) for tree in locations]
            self.assertLess(answer[0], len(seen))
            self.assertEqual(seen[answer[0]:], [seen[-1]] * (len(seen) - answer[0]))
            if answer[0] > 0:
                self.assertNotEqual(seen[answer[0] - 1], seen[-1])


class Surprises(Requirement):
    """Point 4."""

    def setUp(self):
        self.found = 0

    def test_not_by_a_move_later_than_all_before(self):
        self.in_stories(60, self.check)
        self.assertGreater(self.found, 20)

    def check(self, story, replica):
        positions = story.ask([surprises(replica)])[0][1:]
        times = [story.moves[number][0] for number in story.learned(replica)]
        for position in positions:
            self.assertLess(times[position], max(times[:position], default=(0, 0)))
        self.found += len(positions)

    def test_those_that_the_views_tell(self):
        self.in_stories(40, self.check_views)

    def check_views(self, story, replica):
        expected = []
        before = {}
        for position, number in enumerate(story.learned(replica)):
            after = story.locations(replica, position + 1)
            node, location = story.moves[number][1:]
            changed = [one for one in range(NODES) if before.get(one) != after.get(one)]
            if [one for one in changed if one != node or after.get(node) != location]:
                expected.append(position)
            before = after
        self.assertEqual(story.ask([surprises(replica)])[0], [len(expected)] + expected)


class Differences(Requirement):
    """Point 5."""

    def test_between_any_views(self):
        self.in_stories(40, self.check)

    def check(self, story, replica):
        views = [story.any_view(replica) for turn in range(5)]
        pairs = [(one, other) for one in range(5) for other in range(5)]
        asked = story.ask([
            differences(replica, views[one][0], views[other][0], views[one][1], views[other][1])
            for one, other in pairs])
        found = {pair: answer[1:] for pair, answer in zip(pairs, asked)}
        for one, other in pairs:
            self.assertEqual(found[one, other], found[other, one])
            for third in range(5):
                self.assertLessEqual(set(found[one, other]), set(found[one, third]) | set(found[other, third]))
        self.assertEqual([found[one, one] for one in range(5)], [[]] * 5)

    def test_those_that_the_locations_tell(self):
        self.in_stories(40, self.check_locations)

    def check_locations(self, story, replica):
        for turn in range(4):
            (i, stamp), (j, other_stamp) = story.any_view(replica), story.any_view(replica)
            tree, other = story.locations(replica, i, stamp), story.locations(replica, j, other_stamp)
            expected = [node for node in range(NODES) if tree.get(node) != other.get(node)]
            asked = story.ask([differences(replica, i, j, stamp, other_stamp)])[0]
            self.assertEqual(asked, [len(expected)] + expected)


class History(Requirement):
    """Point 6."""

    def test_its_last_move_gives_the_present_location(self):
        self.in_stories(60, self.check)

    def check(self, story, replica):
        movers = story.movers(replica, len(story.learned(replica)))
        for node, answer in enumerate(story.ask([history(replica, node) for node in range(NODES)])):
            if node in movers:
                number, counter, origin, parent, label = movers[node]
                self.assertEqual(answer[-3:], [number, parent, label])
            else:
                self.assertEqual(answer, [0])


class ErrorsChangeNothing(unittest.TestCase):
    """Point 7."""

    def test_among_other_calls(self):
        for seed in range(30):
            chance = random.Random(seed)
            calls = any_session(chance, 3, 24)
            questions = all_views(3, 12)
            questions += chance.sample([one for replica in range(3) for one in questions_of_now(replica)], 20)
            mixed = []
            right = []
            for call in calls + questions:
                for wrong in chance.sample(WRONG, chance.randrange(3)):
                    # Until the first begin there is one replica, where the same calls are wrong.
                    mixed.append(wrong)
                    right.append(False)
                mixed.append(call)
                right.append(True)
            asked = ask(mixed)
            self.assertEqual([part for part, sure in zip(asked, right) if sure], ask(calls + questions), seed)
            self.assertTrue(all(len(part) == 1 and part[0] < 0 for part, sure in zip(asked, right) if not sure), seed)

    def test_each_wrong_call_by_itself(self):
        for seed, wrong in enumerate(WRONG):
            calls = any_session(random.Random(seed), 3, 24)
            questions = all_views(3, 12) + questions_of_now(0) + questions_of_now(1) + questions_of_now(2)
            asked = ask(calls + [wrong] + questions)
            self.assertLess(asked[len(calls)][0], 0, wrong)
            self.assertEqual(asked[len(calls) + 1:], lasts(calls, questions), wrong)


if __name__ == "__main__":
    unittest.main()
