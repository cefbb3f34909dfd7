import unittest

from tests.asking import (
    GREATEST, NO_SUCH, NOT_THERE, OUT_OF_RANGE, ancestors, ask, begin, chain, deliver, last, lasts, listing, move,
    tree_at)


class Path(unittest.TestCase):
    def test_root_and_bin_alone(self):
        self.assertEqual(ask([ancestors(0, 0, 0), ancestors(0, 0, 1)]), [[1, 0], [1, 1]])
        self.assertEqual(
            lasts([move(0, 2, 0), move(0, 3, 1)], [ancestors(0, 2, 0), ancestors(0, 2, 1)]), [[1, 0], [1, 1]])

    def test_up_to_the_root(self):
        calls = [move(0, 9, 0), move(0, 3, 9), move(0, 5, 3), move(0, 4, 9)]
        self.assertEqual(
            lasts(calls, [ancestors(0, 4, node) for node in (9, 3, 5, 4)]),
            [[2, 9, 0], [3, 3, 9, 0], [4, 5, 3, 9, 0], [3, 4, 9, 0]])

    def test_up_to_the_bin(self):
        calls = [move(0, 9, 1), move(0, 3, 9)]
        self.assertEqual(lasts(calls, [ancestors(0, 2, 9), ancestors(0, 2, 3)]), [[2, 9, 1], [3, 3, 9, 1]])

    def test_every_node_below_one_another(self):
        self.assertEqual(last(chain() + [ancestors(0, 62, 63)]), [63] + list(range(63, 1, -1)) + [0])

    def test_follows_what_it_is_below(self):
        calls = [move(0, 2, 0), move(0, 3, 2), move(0, 4, 0), move(0, 2, 4), move(0, 4, 1)]
        self.assertEqual(
            lasts(calls, [ancestors(0, i, 3) for i in range(2, 6)]),
            [[3, 3, 2, 0], [3, 3, 2, 0], [4, 3, 2, 4, 0], [4, 3, 2, 4, 1]])


class View(unittest.TestCase):
    def test_by_number(self):
        calls = [begin(2), move(0, 2, 0), move(0, 3, 2), deliver(1, 1), deliver(0, 1)]
        self.assertEqual(
            lasts(calls, [ancestors(1, 1, 3), ancestors(1, 2, 3), ancestors(0, 1, 3), ancestors(0, 1, 2)]),
            [NOT_THERE, [3, 3, 2, 0], NOT_THERE, [2, 2, 0]])

    def test_by_timestamp(self):
        calls = [begin(2), move(1, 2, 1), move(0, 2, 0), move(1, 3, 2), deliver(0, 0), deliver(2, 0)]
        self.assertEqual(
            lasts(calls, [ancestors(0, 3, 2, 0, GREATEST), ancestors(0, 3, 2, 1, 0), ancestors(0, 3, 2, 1, 1),
                          ancestors(0, 3, 3, 2, 0), ancestors(0, 3, 3, 2, 1), ancestors(0, 3, 3, GREATEST, GREATEST),
                          ancestors(0, 3, 3, GREATEST, 0), ancestors(0, 2, 3), ancestors(0, 1, 2)]),
            [NOT_THERE, [2, 2, 0], [2, 2, 1], NOT_THERE, [3, 3, 2, 1], [3, 3, 2, 1], [3, 3, 2, 1], NOT_THERE,
             [2, 2, 0]])

    def test_root_and_bin_in_an_empty_view(self):
        self.assertEqual(lasts([move(0, 2, 0)], [ancestors(0, 1, 0, 0, 0), ancestors(0, 0, 1, 0, 0)]), [[1, 0], [1, 1]])


class Errors(unittest.TestCase):
    def test_no_such_replica(self):
        for replica in (1, 8, GREATEST):
            self.assertEqual(ask([ancestors(replica, 0, 0)]), [NO_SUCH])

    def test_more_moves_than_the_replica_knows(self):
        calls = [begin(2), move(0, 2, 0), move(0, 3, 0), deliver(1, 1)]
        for i in (2, 3, 80, 2 ** 32, GREATEST):
            self.assertEqual(last(calls + [ancestors(1, i, 0)]), OUT_OF_RANGE)
            self.assertEqual(last(calls + [ancestors(1, i, 3)]), OUT_OF_RANGE)

    def test_a_node_that_does_not_exist_in_the_view(self):
        self.assertEqual(lasts([move(0, 2, 0)], [ancestors(0, 1, 3), ancestors(0, 1, 63)]), [NOT_THERE] * 2)
        self.assertEqual(lasts([move(0, 2, 3)], [ancestors(0, 1, 2), ancestors(0, 1, 3)]), [NOT_THERE] * 2)
        self.assertEqual(lasts([move(0, 2, 0)], [ancestors(0, 0, 2), ancestors(0, 1, 2, 0, GREATEST)]), [NOT_THERE] * 2)

    def test_a_number_of_no_node_at_all(self):
        for node in (64, 65, 2 ** 32, GREATEST):
            self.assertEqual(lasts([move(0, 2, 0)], [ancestors(0, 1, node)]), [NOT_THERE])

    def test_order_of_the_errors(self):
        self.assertEqual(
            ask([ancestors(1, 1, 64), ancestors(1, 0, 64), ancestors(1, 1, 0), ancestors(0, 1, 64), ancestors(0, 1, 2),
                 ancestors(0, 0, 64)]),
            [NO_SUCH, NO_SUCH, NO_SUCH, OUT_OF_RANGE, OUT_OF_RANGE, NOT_THERE])

    def test_asking_changes_nothing(self):
        calls = [begin(2), move(0, 2, 0, 5), ancestors(0, 1, 2), ancestors(0, 1, 3), ancestors(0, 2, 2),
                 ancestors(2, 0, 0)]
        self.assertEqual(
            lasts(calls, [tree_at(0, 1), ancestors(0, 1, 2), ancestors(0, 1, 3), ancestors(0, 2, 2), move(0, 3, 2)]),
            [listing((2, 1, 5)), [2, 2, 0], NOT_THERE, OUT_OF_RANGE, [1, 2, 1]])


if __name__ == "__main__":
    unittest.main()
