import unittest

from tests.asking import (
    GREATEST, NO_SUCH, ask, begin, deliver, differences, known, last, lasts, listing, move, moved_by, surprises, sync,
    tree_at)


class Unsurprising(unittest.TestCase):
    def test_at_first(self):
        self.assertEqual(ask([surprises(0)]), [[0]])

    def test_own_moves(self):
        calls = [move(0, 2, 0), move(0, 3, 2), move(0, 4, 9), move(0, 2, 3), move(0, 2, 1), move(0, 2, 1)]
        self.assertEqual(last(calls + [surprises(0)]), [0])

    def test_learned_in_the_order_of_the_timestamps(self):
        calls = [begin(2), move(0, 2, 0), move(0, 3, 2), move(0, 2, 3), move(0, 3, 1), sync(1, 0)]
        self.assertEqual(last(calls + [surprises(1)]), [0])

    def test_an_earlier_move_that_does_what_it_says(self):
        calls = [begin(2), move(0, 2, 0), move(0, 3, 0), deliver(1, 1), deliver(0, 1)]
        self.assertEqual(last(calls + [surprises(1)]), [0])

    def test_an_earlier_move_that_changes_no_location(self):
        calls = [begin(2), move(0, 2, 0, 5), move(0, 2, 0, 6), move(0, 4, 9), deliver(1, 1), deliver(2, 1),
                 deliver(0, 1)]
        self.assertEqual(last(calls + [surprises(1)]), [0])

    def test_what_is_below_a_moved_node_keeps_its_location(self):
        calls = [begin(2), move(0, 2, 0), move(0, 3, 2), move(1, 4, 0), move(1, 5, 0), move(1, 6, 0),
                 deliver(0, 1), deliver(1, 1), move(0, 2, 1), deliver(5, 1)]
        self.assertEqual(last(calls + [surprises(1)]), [0])

    def test_eighty_moves(self):
        calls = [begin(2)] + [move(0, 2, number % 2, number) for number in range(80)]
        calls += [deliver(number, 1) for number in range(79, -1, -1)]
        self.assertEqual(lasts(calls, [surprises(0), surprises(1)]), [[0]] * 2)


class ByAnotherNode(unittest.TestCase):
    def test_a_node_that_exists_only_then(self):
        # Node 3 waits for its parent, which comes where its move says.
        calls = [begin(2), move(0, 2, 0), move(0, 3, 2), deliver(1, 1), deliver(0, 1)]
        self.assertEqual(
            lasts(calls, [surprises(1), differences(1, 1, 2), moved_by(1, 2, 2)]), [[1, 1], [2, 2, 3], [0, 1, 0, 0, 0]])

    def test_a_node_that_goes_back(self):
        # With node 2 below node 3, node 3 can't have gone below node 2.
        calls = [begin(2), move(0, 2, 0, 1), move(0, 3, 0, 2), sync(0, 1), move(0, 2, 3, 3), move(1, 9, 0, 4),
                 move(1, 3, 2, 5), deliver(2, 1)]
        self.assertEqual(
            lasts(calls, [surprises(1), surprises(0), moved_by(1, 5, 2), moved_by(1, 5, 3)]),
            [[1, 4], [0], [2, 3, 0, 3, 3], [1, 2, 0, 0, 2]])

    def test_the_node_of_the_move_stays_where_it_is(self):
        # Node 2 goes on later, but node 3, which waited for it, is now put below it and stays there.
        calls = [begin(2), move(0, 2, 0, 1), move(1, 3, 2, 5), move(0, 4, 0), move(0, 2, 0, 2), deliver(3, 1),
                 deliver(0, 1)]
        self.assertEqual(lasts(calls, [surprises(1), differences(1, 2, 3)]), [[1, 2], [1, 3]])

    def test_a_node_that_goes_to_the_location_that_the_move_gives_to_its_own(self):
        calls = [
            begin(2),
            move(0, 2, 0, 7),  # (1, 0), which replica 1 learns of last
            move(1, 3, 0, 7),  # (1, 1)
            move(1, 4, 0, 5),
            move(1, 4, 2, 6),  # (3, 1), without effect as long as node 2 does not exist
            move(1, 2, 3, 8),  # (4, 1)
            move(1, 3, 4, 9),  # (5, 1), without effect as soon as node 4 is below nodes 2 and 3
            move(1, 4, 0, 5),  # (6, 1), puts node 4 back at its first location
            deliver(0, 1)]
        self.assertEqual(
            lasts(calls, [surprises(1), differences(1, 6, 7), moved_by(1, 6, 3), moved_by(1, 7, 3)]),
            [[1, 6], [1, 3], [5, 5, 1, 4, 9], [1, 1, 1, 0, 7]])


class ByItsOwnNode(unittest.TestCase):
    def setUp(self):
        self.calls = [
            begin(2), move(0, 3, 0, 30), move(0, 2, 3, 23), sync(0, 1),
            move(0, 2, 0, 5),   # (3, 0), which replica 1 learns of last
            move(1, 3, 2, 32),  # (3, 1), without effect as long as node 2 is below node 3
            move(1, 2, 0, 9),   # (4, 1)
            move(1, 2, 3, 8),   # (5, 1), without effect as soon as node 3 is below node 2
            move(1, 3, 0, 30),  # (6, 1), puts node 3 back at its first location
            deliver(2, 1)]

    def test_alone(self):
        self.assertEqual(
            lasts(self.calls, [surprises(1), differences(1, 6, 7), moved_by(1, 6, 2), moved_by(1, 7, 2)]),
            [[1, 6], [1, 2], [5, 5, 1, 3, 8], [4, 4, 1, 0, 9]])

    def test_not_if_it_is_where_the_move_says(self):
        self.calls[6] = move(1, 2, 0, 5)
        self.assertEqual(
            lasts(self.calls, [surprises(1), differences(1, 6, 7), moved_by(1, 7, 2)]), [[0], [1, 2], [4, 4, 1, 0, 5]])

    def test_parent_and_label_both_count(self):
        self.calls[6] = move(1, 2, 1, 5)
        self.assertEqual(lasts(self.calls, [surprises(1), moved_by(1, 7, 2)]), [[1, 6], [4, 4, 1, 1, 5]])


class Positions(unittest.TestCase):
    def test_several_in_the_order_of_learning(self):
        # Each pair is a child and then the parent that it waits for.
        calls = [begin(2)]
        for node in (2, 4, 6):
            calls += [move(0, node, 0), move(0, node + 1, node)]
        calls += [deliver(number, 1) for number in (1, 0, 3, 5, 2, 4)]
        self.assertEqual(lasts(calls, [surprises(1), surprises(0)]), [[3, 1, 4, 5], [0]])

    def test_counted_from_what_was_seen_then(self):
        # What is learned afterwards neither takes a surprise back nor adds one to an earlier move.
        calls = [begin(2), move(0, 2, 0), move(0, 3, 2), deliver(1, 1), deliver(0, 1), surprises(1)]
        calls += [move(0, 3, 1), deliver(2, 1), surprises(1), move(1, 3, 0), surprises(1)]
        asked = ask(calls)
        self.assertEqual([asked[5], asked[8], asked[10]], [[1, 1]] * 3)

    def test_each_replica_has_its_own(self):
        calls = [begin(3), move(0, 2, 0), move(0, 3, 2), deliver(1, 1), deliver(0, 1), deliver(0, 2), deliver(1, 2)]
        self.assertEqual(lasts(calls, [surprises(replica) for replica in range(3)]), [[0], [1, 1], [0]])

    def test_the_first_move_does_not_surprise(self):
        calls = [begin(3), move(0, 2, 0), move(0, 3, 2), deliver(1, 1), deliver(0, 2)]
        self.assertEqual(lasts(calls, [surprises(1), surprises(2)]), [[0]] * 2)

    def test_begin_in_the_middle(self):
        calls = [begin(2), move(0, 2, 0), move(0, 3, 2), deliver(1, 1), deliver(0, 1), begin(2)]
        self.assertEqual(last(calls + [surprises(1)]), [0])


class Errors(unittest.TestCase):
    def test_no_such_replica(self):
        for replica in (1, 8, GREATEST):
            self.assertEqual(last([move(0, 2, 0), surprises(replica)]), NO_SUCH)

    def test_asking_changes_nothing(self):
        calls = [begin(2), move(0, 2, 0, 5), surprises(0), surprises(1), surprises(2)]
        self.assertEqual(
            lasts(calls, [surprises(0), known(0), known(1), tree_at(0, 1), move(1, 3, 0, 6)]),
            [[0], [1, 0], [0], listing((2, 1, 5)), [1, 1, 1]])


if __name__ == "__main__":
    unittest.main()
