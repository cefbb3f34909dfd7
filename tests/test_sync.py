import unittest

from tests.asking import (
    GREATEST, NO_SUCH, OUT_OF_RANGE, ask, begin, deliver, last, lasts, listing, move, sync, tree_at)


class Sync(unittest.TestCase):
    def test_both_know_something_that_the_other_does_not(self):
        calls = [begin(2), move(0, 2, 0, 5), move(0, 3, 2, 6), move(1, 4, 0, 7)]
        both = listing((2, 1, 5), (3, 2, 6), (4, 1, 7))
        self.assertEqual(lasts(calls, [sync(0, 1), tree_at(0, 3), tree_at(1, 3)]), [[3, 1, 2], both, both])
        self.assertEqual(lasts(calls, [sync(1, 0), tree_at(0, 3), tree_at(1, 3)]), [[3, 2, 1], both, both])

    def test_what_both_know_is_not_learned_again(self):
        calls = [begin(2), move(0, 2, 0), move(0, 3, 0), move(1, 4, 0), deliver(0, 1), deliver(2, 0), move(1, 5, 0)]
        self.assertEqual(
            lasts(calls, [sync(0, 1), sync(0, 1), sync(1, 0), tree_at(0, 5), tree_at(1, 5)]),
            [[4, 1, 1], [4, 0, 0], [4, 0, 0], OUT_OF_RANGE, OUT_OF_RANGE])

    def test_one_knows_nothing(self):
        calls = [begin(3), move(0, 2, 0), move(0, 3, 0)]
        self.assertEqual(lasts(calls, [sync(0, 1)]), [[2, 0, 2]])
        self.assertEqual(lasts(calls, [sync(1, 0)]), [[2, 2, 0]])
        self.assertEqual(lasts(calls, [sync(1, 2)]), [[0, 0, 0]])

    def test_with_itself(self):
        calls = [begin(2), move(0, 2, 0, 5), move(0, 3, 2, 6), move(1, 4, 0)]
        self.assertEqual(
            lasts(calls, [sync(0, 0), tree_at(0, 2), tree_at(0, 3), tree_at(1, 2), sync(1, 1)]),
            [[2, 0, 0], listing((2, 1, 5), (3, 2, 6)), OUT_OF_RANGE, OUT_OF_RANGE, [1, 0, 0]])

    def test_learns_in_the_order_of_the_timestamps(self):
        # Replica 1 has learned of the last one first; replica 0 gets them sorted.
        calls = [begin(3), move(2, 2, 0, 5), move(2, 3, 0, 6), move(2, 4, 0, 7),
                 deliver(2, 1), deliver(0, 1), deliver(1, 1)]
        self.assertEqual(
            lasts(calls, [sync(0, 1), tree_at(0, 1), tree_at(0, 2), tree_at(0, 3), tree_at(1, 1), tree_at(1, 2)]),
            [[3, 3, 0], listing((2, 1, 5)), listing((2, 1, 5), (3, 1, 6)),
             listing((2, 1, 5), (3, 1, 6), (4, 1, 7)), listing((4, 1, 7)), listing((2, 1, 5), (4, 1, 7))])

    def test_other_learns_in_the_order_of_the_timestamps_too(self):
        calls = [begin(3), move(2, 2, 0, 5), move(2, 3, 0, 6), deliver(1, 1), deliver(0, 1)]
        self.assertEqual(
            lasts(calls, [sync(1, 0), tree_at(0, 1), tree_at(1, 1)]),
            [[2, 0, 2], listing((2, 1, 5)), listing((3, 1, 6))])

    def test_equal_counters_come_in_the_order_of_the_replicas(self):
        # The moves are made, and learned of by replica 0, against the order of their origins.
        calls = [begin(4), move(3, 2, 0, 3), move(2, 3, 0, 2), move(1, 4, 0, 1),
                 deliver(0, 0), deliver(1, 0), deliver(2, 0)]
        self.assertEqual(
            lasts(calls, [sync(1, 0), tree_at(1, 1), tree_at(1, 2), tree_at(1, 3)]),
            [[3, 2, 0], listing((4, 1, 1)), listing((3, 1, 2), (4, 1, 1)), listing((2, 1, 3), (3, 1, 2), (4, 1, 1))])

    def test_the_counter_orders_ahead_of_the_number_of_the_move(self):
        # Move 2 has the counter 1, moves 0 and 1 at replica 0 the counters 1 and 2.
        calls = [begin(3), move(0, 2, 0, 5), move(0, 3, 0, 6), move(1, 4, 0, 7), sync(0, 1)]
        self.assertEqual(
            lasts(calls, [sync(2, 1), tree_at(2, 1), tree_at(2, 2)]),
            [[3, 3, 0], listing((2, 1, 5)), listing((2, 1, 5), (4, 1, 7))])

    def test_what_was_learned_before_keeps_its_place(self):
        calls = [begin(2), move(0, 2, 0, 5), move(1, 3, 0, 6), move(1, 4, 0, 7)]
        self.assertEqual(
            lasts(calls, [sync(0, 1), tree_at(0, 1), tree_at(0, 2), tree_at(1, 1), tree_at(1, 2), tree_at(1, 3)]),
            [[3, 2, 1], listing((2, 1, 5)), listing((2, 1, 5), (3, 1, 6)), listing((3, 1, 6)),
             listing((3, 1, 6), (4, 1, 7)), listing((2, 1, 5), (3, 1, 6), (4, 1, 7))])

    def test_a_third_replica_learns_nothing(self):
        calls = [begin(3), move(0, 2, 0), move(1, 3, 0), sync(0, 1)]
        self.assertEqual(lasts(calls, [tree_at(2, 1), sync(2, 0)]), [OUT_OF_RANGE, [2, 2, 0]])

    def test_passes_on_what_others_have_made(self):
        calls = [begin(8), move(0, 2, 0, 5)] + [sync(replica, replica + 1) for replica in range(7)]
        asked = ask(calls + [tree_at(7, 1)])
        self.assertEqual(asked[2:9], [[1, 0, 1]] * 7)
        self.assertEqual(asked[9], listing((2, 1, 5)))

    def test_eighty_moves(self):
        calls = [begin(2)] + [move(number % 2, 2 + number % 62, 0) for number in range(80)]
        self.assertEqual(lasts(calls, [sync(1, 0), tree_at(0, 81), tree_at(1, 81)]),
                         [[80, 40, 40], OUT_OF_RANGE, OUT_OF_RANGE])


class Errors(unittest.TestCase):
    def test_no_such_replica(self):
        self.assertEqual(ask([sync(0, 1)]), [NO_SUCH])
        for replica in (2, 8, 2 ** 32, GREATEST):
            for call in (sync(0, replica), sync(replica, 0), sync(replica, replica)):
                self.assertEqual(last([begin(2), move(0, 2, 0), call]), NO_SUCH)

    def test_an_error_changes_nothing(self):
        calls = [begin(2), move(0, 2, 0, 5), move(1, 3, 0, 6), sync(0, 2), sync(2, 0), sync(1, 2), sync(2, 2)]
        self.assertEqual(
            lasts(calls, [tree_at(0, 1), tree_at(0, 2), tree_at(1, 1), tree_at(1, 2), tree_at(2, 0), move(1, 4, 0)]),
            [listing((2, 1, 5)), OUT_OF_RANGE, listing((3, 1, 6)), OUT_OF_RANGE, NO_SUCH, [2, 2, 1]])


if __name__ == "__main__":
    unittest.main()
