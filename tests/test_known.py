import unittest

from tests.asking import (
    GREATEST, NO_ROOM, NO_SUCH, ask, begin, deliver, known, last, lasts, listing, move, sync, tree_at)


class Moves(unittest.TestCase):
    def test_at_first(self):
        self.assertEqual(ask([known(0), begin(2), known(0), known(1)]), [[0], [0], [0], [0]])

    def test_own_moves(self):
        self.assertEqual(last([move(0, 2, 0), move(0, 2, 9), move(0, 3, 0), known(0)]), [3, 0, 1, 2])

    def test_only_those_of_the_replica(self):
        calls = [begin(3), move(1, 2, 0), move(0, 2, 0), move(1, 3, 0)]
        self.assertEqual(lasts(calls, [known(0), known(1), known(2)]), [[1, 1], [2, 0, 2], [0]])

    def test_in_the_order_of_delivery(self):
        calls = [begin(2), move(0, 2, 0), move(0, 3, 0), move(0, 4, 0), deliver(2, 1), deliver(0, 1), deliver(1, 1)]
        self.assertEqual(last(calls + [known(1)]), [3, 2, 0, 1])

    def test_delivered_and_made_in_between(self):
        calls = [begin(2), move(0, 2, 0), move(1, 3, 0), deliver(0, 1), move(1, 4, 0), deliver(1, 0)]
        self.assertEqual(lasts(calls, [known(1), known(0)]), [[3, 1, 0, 2], [2, 0, 1]])

    def test_a_second_delivery_changes_nothing(self):
        calls = [begin(2), move(0, 2, 0), move(0, 3, 0), deliver(1, 1), deliver(0, 1), deliver(1, 1), deliver(0, 0)]
        self.assertEqual(lasts(calls, [known(1), known(0)]), [[2, 1, 0], [2, 0, 1]])

    def test_sync_in_the_order_of_the_timestamps(self):
        # The timestamps are (1, 2), (1, 1), (2, 2), (1, 0), (2, 1).
        calls = [begin(4), move(2, 2, 0), move(1, 2, 0), move(2, 2, 0), move(0, 2, 0), move(1, 2, 0)]
        calls += [deliver(number, 3) for number in (4, 2)] + [sync(1, 2), sync(3, 1), sync(0, 3)]
        self.assertEqual(
            lasts(calls, [known(replica) for replica in range(4)]),
            [[5, 3, 1, 0, 4, 2], [4, 1, 4, 0, 2], [4, 0, 2, 1, 4], [5, 4, 2, 1, 0, 3]])

    def test_eighty_moves(self):
        calls = [begin(2)] + [move(0, 2, 0) for number in range(81)]
        calls += [deliver(number, 1) for number in range(79, -1, -1)]
        asked = ask(calls + [known(0), known(1)])
        self.assertEqual(asked[81], NO_ROOM)
        self.assertEqual(asked[-2:], [[80] + list(range(80)), [80] + list(range(79, -1, -1))])

    def test_begin_in_the_middle(self):
        calls = [begin(2), move(0, 2, 0), sync(0, 1), begin(3), move(2, 2, 0)]
        self.assertEqual(lasts(calls, [known(0), known(1), known(2)]), [[0], [0], [1, 0]])


class Errors(unittest.TestCase):
    def test_no_such_replica(self):
        for replica in (1, 8, GREATEST):
            self.assertEqual(last([move(0, 2, 0), known(replica)]), NO_SUCH)
        self.assertEqual(lasts([begin(8)], [known(7), known(8)]), [[0], NO_SUCH])

    def test_asking_changes_nothing(self):
        calls = [begin(2), move(0, 2, 0, 5), known(0), known(0), known(2)]
        self.assertEqual(
            lasts(calls, [known(0), known(1), tree_at(0, 1), move(1, 3, 0, 6)]),
            [[1, 0], [0], listing((2, 1, 5)), [1, 1, 1]])


if __name__ == "__main__":
    unittest.main()
