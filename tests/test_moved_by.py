import unittest

from tests.asking import (
    GREATEST, NO_SUCH, NOT_THERE, OUT_OF_RANGE, ask, begin, deliver, known, last, lasts, listing, move, moved_by, sync,
    tree_at)


class Mover(unittest.TestCase):
    def test_number_timestamp_parent_and_label(self):
        calls = [begin(4), move(3, 9, 0, 11), move(3, 8, 9, 12), move(0, 2, 0, 13), move(3, 7, 9, 14)]
        self.assertEqual(
            lasts(calls, [moved_by(3, 3, 7), moved_by(3, 3, 8), moved_by(3, 3, 9), moved_by(0, 1, 2)]),
            [[3, 3, 3, 9, 14], [1, 2, 3, 9, 12], [0, 1, 3, 0, 11], [2, 1, 0, 0, 13]])

    def test_below_the_bin(self):
        self.assertEqual(
            lasts([move(0, 2, 1, 5), move(0, 3, 2, 6)], [moved_by(0, 2, 2), moved_by(0, 2, 3)]),
            [[0, 1, 0, 1, 5], [1, 2, 0, 2, 6]])

    def test_the_last_of_several(self):
        calls = [move(0, 2, 0, 5), move(0, 3, 0, 6), move(0, 2, 3, 7), move(0, 2, 1, 8), move(0, 3, 1, 9)]
        self.assertEqual(last(calls + [moved_by(0, 5, 2)]), [3, 4, 0, 1, 8])

    def test_the_last_of_two_that_say_the_same(self):
        self.assertEqual(last([move(0, 2, 0, 5), move(0, 2, 0, 5), moved_by(0, 2, 2)]), [1, 2, 0, 0, 5])

    def test_moved_along_is_not_moved(self):
        calls = [move(0, 2, 0, 5), move(0, 3, 2, 6), move(0, 2, 1, 7)]
        self.assertEqual(last(calls + [moved_by(0, 3, 3)]), [1, 2, 0, 2, 6])

    def test_last_by_the_timestamps_not_by_number_or_learning(self):
        # The timestamps are (1, 1), (1, 0) and (2, 0); each reader learns of them in another order.
        calls = [begin(4), move(1, 2, 0, 5), move(0, 2, 0, 6), move(0, 2, 0, 7)]
        calls += [deliver(2, 2), deliver(1, 2), deliver(0, 2), deliver(0, 3), deliver(1, 3)]
        self.assertEqual(
            lasts(calls, [moved_by(2, i, 2) for i in (1, 2, 3)] + [moved_by(3, 2, 2)]),
            [[2, 2, 0, 0, 7], [2, 2, 0, 0, 7], [2, 2, 0, 0, 7], [0, 1, 1, 0, 5]])

    def test_first_and_last_node(self):
        self.assertEqual(
            lasts([move(0, 2, 0, 5), move(0, 63, 2, 1000000000)], [moved_by(0, 2, 2), moved_by(0, 2, 63)]),
            [[0, 1, 0, 0, 5], [1, 2, 0, 2, 1000000000]])

    def test_the_eightieth_move(self):
        calls = [move(0, 2 + number % 7, 0, number) for number in range(80)]
        self.assertEqual(
            lasts(calls, [moved_by(0, 80, 4), moved_by(0, 80, 3)]), [[79, 80, 0, 0, 79], [78, 79, 0, 0, 78]])


class WithoutEffect(unittest.TestCase):
    def test_a_missing_parent(self):
        calls = [move(0, 2, 0, 5), move(0, 2, 9, 6)]
        self.assertEqual(last(calls + [moved_by(0, 2, 2)]), [0, 1, 0, 0, 5])

    def test_below_itself(self):
        calls = [move(0, 2, 0, 5), move(0, 3, 2, 6), move(0, 2, 3, 7), move(0, 2, 2, 8), move(0, 3, 3, 9)]
        self.assertEqual(
            lasts(calls, [moved_by(0, 5, 2), moved_by(0, 5, 3)]), [[0, 1, 0, 0, 5], [1, 2, 0, 2, 6]])

    def test_one_that_takes_effect_with_what_is_learned_later(self):
        calls = [begin(2), move(0, 2, 0, 5), move(1, 9, 0, 6), move(1, 9, 2, 7), deliver(0, 1)]
        self.assertEqual(
            lasts(calls, [moved_by(1, 2, 9), moved_by(1, 3, 9)]), [[1, 1, 1, 0, 6], [2, 2, 1, 2, 7]])

    def test_one_that_loses_its_effect_with_what_is_learned_later(self):
        calls = [begin(2), move(0, 2, 0, 1), move(0, 3, 0, 2), sync(0, 1), move(0, 2, 3, 3), move(1, 9, 0, 4),
                 move(1, 3, 2, 5), deliver(2, 1)]
        self.assertEqual(
            lasts(calls, [moved_by(1, 4, 3), moved_by(1, 5, 3), moved_by(1, 4, 2), moved_by(1, 5, 2)]),
            [[4, 4, 1, 2, 5], [1, 2, 0, 0, 2], [0, 1, 0, 0, 1], [2, 3, 0, 3, 3]])


class View(unittest.TestCase):
    def setUp(self):
        # Timestamps (1, 0), (2, 0), (1, 1), (2, 1); replica 2 learns of the two of replica 1 first.
        self.calls = [begin(3), move(0, 2, 0, 10), move(0, 2, 0, 20), move(1, 2, 0, 11), move(1, 2, 0, 21),
                      deliver(2, 2), deliver(3, 2), deliver(0, 2), deliver(1, 2)]

    def numbers(self, *views):
        asked = lasts(self.calls, [moved_by(2, i, 2, counter, origin) for i, counter, origin in views])
        return [part[0] for part in asked]

    def test_by_number(self):
        self.assertEqual(
            lasts(self.calls, [moved_by(2, i, 2) for i in range(5)]),
            [NOT_THERE, [2, 1, 1, 0, 11], [3, 2, 1, 0, 21], [3, 2, 1, 0, 21], [3, 2, 1, 0, 21]])

    def test_by_timestamp(self):
        self.assertEqual(
            self.numbers((4, 1, 0), (4, 1, 1), (4, 1, GREATEST), (4, 2, 0), (4, 2, 1), (4, GREATEST, 0)),
            [0, 2, 2, 1, 3, 3])

    def test_by_both(self):
        self.assertEqual(self.numbers((2, 2, 0), (3, 1, 0), (3, 2, 0), (1, 2, 0)), [2, 0, 2, 2])

    def test_timestamps_ahead_of_all_moves(self):
        asked = lasts(self.calls, [moved_by(2, 4, 2, 0, 0), moved_by(2, 4, 2, 0, GREATEST), moved_by(2, 2, 2, 1, 0)])
        self.assertEqual(asked, [NOT_THERE] * 3)


class Errors(unittest.TestCase):
    def test_no_such_replica(self):
        for replica in (1, 8, GREATEST):
            self.assertEqual(last([move(0, 2, 0), moved_by(replica, 0, 2)]), NO_SUCH)

    def test_more_moves_than_the_replica_knows(self):
        calls = [begin(2), move(0, 2, 0), move(0, 3, 0), deliver(1, 1)]
        for i in (2, 3, 80, 2 ** 32, GREATEST):
            self.assertEqual(last(calls + [moved_by(1, i, 3)]), OUT_OF_RANGE)
            self.assertEqual(last(calls + [moved_by(1, i, 3, 0, 0)]), OUT_OF_RANGE)

    def test_the_root_and_the_bin_have_no_location(self):
        self.assertEqual(
            lasts([move(0, 2, 0), move(0, 3, 1)], [moved_by(0, i, node) for i in (0, 2) for node in (0, 1)]),
            [NOT_THERE] * 4)

    def test_a_node_that_does_not_exist_in_the_view(self):
        self.assertEqual(
            lasts([move(0, 2, 0)], [moved_by(0, 0, 2), moved_by(0, 1, 3), moved_by(0, 1, 63), moved_by(0, 1, 2, 0, 9)]),
            [NOT_THERE] * 4)

    def test_a_node_that_was_moved_without_effect_alone(self):
        calls = [move(0, 2, 3), move(0, 3, 3), move(0, 2, 2)]
        self.assertEqual(lasts(calls, [moved_by(0, 3, 2), moved_by(0, 3, 3)]), [NOT_THERE] * 2)

    def test_a_number_of_no_node_at_all(self):
        for node in (64, 65, 2 ** 32, GREATEST):
            self.assertEqual(last([move(0, 2, 0), moved_by(0, 1, node)]), NOT_THERE)

    def test_order_of_the_errors(self):
        self.assertEqual(
            ask([moved_by(1, 1, 64), moved_by(1, 0, 2), moved_by(1, 1, 2), moved_by(0, 1, 64), moved_by(0, 1, 0),
                 moved_by(0, 0, 64)]),
            [NO_SUCH, NO_SUCH, NO_SUCH, OUT_OF_RANGE, OUT_OF_RANGE, NOT_THERE])

    def test_asking_changes_nothing(self):
        calls = [begin(2), move(0, 2, 0, 5), moved_by(0, 1, 2), moved_by(0, 1, 3), moved_by(0, 2, 2), moved_by(2, 0, 2)]
        self.assertEqual(
            lasts(calls, [moved_by(0, 1, 2), known(0), known(1), tree_at(0, 1), move(1, 3, 0, 6)]),
            [[0, 1, 0, 0, 5], [1, 0], [0], listing((2, 1, 5)), [1, 1, 1]])


if __name__ == "__main__":
    unittest.main()
