import unittest

from tests.asking import (
    GREATEST, NO_SUCH, OUT_OF_RANGE, ancestors, ask, begin, deliver, lasts, listing, move, tree_at)


class Deliver(unittest.TestCase):
    def test_answers_how_many_moves_are_known(self):
        calls = [begin(3), move(0, 2, 0), move(0, 3, 0), move(1, 4, 0)]
        self.assertEqual(
            lasts(calls, [deliver(0, 2), deliver(2, 2), deliver(1, 2), deliver(2, 0), deliver(0, 1)]),
            [[1], [2], [3], [3], [2]])

    def test_any_replica_may_be_told_not_only_by_the_maker(self):
        calls = [begin(8)] + [move(replica, 2 + replica, 0, replica) for replica in range(8)]
        self.assertEqual(
            lasts(calls, [deliver(3, 7), deliver(7, 3), tree_at(7, 2), tree_at(3, 2)]),
            [[2], [2], listing((5, 1, 3), (9, 1, 7)), listing((5, 1, 3), (9, 1, 7))])

    def test_only_the_one_replica_learns(self):
        calls = [begin(3), move(0, 2, 0, 9), deliver(0, 2)]
        self.assertEqual(
            lasts(calls, [tree_at(2, 1), tree_at(1, 1), tree_at(0, 2)]),
            [listing((2, 1, 9)), OUT_OF_RANGE, OUT_OF_RANGE])

    def test_out_of_order(self):
        calls = [begin(2), move(0, 2, 0, 7), move(0, 3, 2, 8), deliver(1, 1), deliver(0, 1)]
        self.assertEqual(
            lasts(calls, [tree_at(1, 0), tree_at(1, 1), tree_at(1, 2), ancestors(1, 1, 3), tree_at(0, 1)]),
            [[0], [0], listing((2, 1, 7), (3, 2, 8)), [-3], listing((2, 1, 7))])

    def test_a_later_move_that_is_known_wins_over_an_earlier_one_that_is_learned_late(self):
        calls = [begin(2), move(0, 2, 0, 7), move(0, 2, 1, 8), move(0, 2, 0, 9), deliver(2, 1), deliver(1, 1)]
        self.assertEqual(
            lasts(calls, [tree_at(1, 1), tree_at(1, 2), deliver(0, 1), tree_at(1, 3)]),
            [listing((2, 1, 9)), listing((2, 1, 9)), [3], listing((2, 1, 9))])

    def test_a_known_move_changes_nothing(self):
        calls = [begin(2), move(0, 2, 0, 7), move(0, 3, 2, 8), deliver(1, 1)]
        self.assertEqual(
            lasts(calls, [deliver(1, 1), deliver(0, 0), deliver(1, 0), tree_at(1, 2), deliver(0, 1), deliver(1, 1),
                          tree_at(1, 1), tree_at(1, 3), tree_at(0, 1), tree_at(0, 3)]),
            [[1], [2], [2], OUT_OF_RANGE, [2], [2], [0], OUT_OF_RANGE, listing((2, 1, 7)), OUT_OF_RANGE])

    def test_the_last_of_eighty(self):
        calls = [begin(2)] + [move(0, 2, 0, label) for label in range(80)]
        self.assertEqual(
            lasts(calls, [deliver(79, 1), tree_at(1, 1), move(1, 2, 0), deliver(80, 1)]),
            [[1], listing((2, 1, 79)), [-5], NO_SUCH])
        asked = ask(calls + [deliver(number, 1) for number in reversed(range(80))])
        self.assertEqual(asked[81:], [[count] for count in range(1, 81)])


class Errors(unittest.TestCase):
    def test_no_such_move(self):
        self.assertEqual(ask([deliver(0, 0)]), [NO_SUCH])
        for number in (1, 2, 79, 80, 2 ** 32, GREATEST):
            self.assertEqual(lasts([begin(2), move(0, 2, 0)], [deliver(number, 1)]), [NO_SUCH])

    def test_no_such_replica(self):
        for replica in (2, 3, 8, 2 ** 32, GREATEST):
            self.assertEqual(lasts([begin(2), move(0, 2, 0)], [deliver(0, replica)]), [NO_SUCH])

    def test_neither_move_nor_replica(self):
        self.assertEqual(lasts([begin(2), move(0, 2, 0)], [deliver(1, 2), deliver(GREATEST, GREATEST)]), [NO_SUCH] * 2)

    def test_the_move_comes_first(self):
        calls = [begin(2), move(0, 2, 0), move(0, 3, 0), move(0, 4, 0)]
        self.assertEqual(lasts(calls, [deliver(2, 1), deliver(1, 2)]), [[1], NO_SUCH])

    def test_an_error_changes_nothing(self):
        calls = [begin(2), move(0, 2, 0, 5), deliver(1, 1), deliver(0, 2), deliver(1, 2)]
        self.assertEqual(
            lasts(calls, [tree_at(0, 1), tree_at(0, 2), tree_at(1, 1), tree_at(2, 0), move(1, 3, 0)]),
            [listing((2, 1, 5)), OUT_OF_RANGE, OUT_OF_RANGE, NO_SUCH, [1, 1, 1]])


if __name__ == "__main__":
    unittest.main()
