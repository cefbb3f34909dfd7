import unittest

from tests.asking import (
    GREATEST, NO_SUCH, OUT_OF_RANGE, ask, begin, chain, deliver, differences, known, last, lasts, listing, move, sync,
    tree_at)


class Differing(unittest.TestCase):
    def test_a_node_that_exists_in_only_one(self):
        self.assertEqual(
            lasts([move(0, 2, 0, 5)], [differences(0, 0, 1), differences(0, 1, 0)]), [[1, 2]] * 2)

    def test_another_parent_with_the_same_label(self):
        calls = [move(0, 3, 0, 5), move(0, 2, 0, 5), move(0, 2, 3, 5)]
        self.assertEqual(lasts(calls, [differences(0, 2, 3), differences(0, 3, 2)]), [[1, 2]] * 2)

    def test_another_label_below_the_same_parent(self):
        calls = [move(0, 2, 0, 5), move(0, 2, 0, 6)]
        self.assertEqual(lasts(calls, [differences(0, 1, 2), differences(0, 2, 1)]), [[1, 2]] * 2)

    def test_parent_and_label_exchanged(self):
        calls = [move(0, 2, 0, 3), move(0, 3, 0, 2), move(0, 4, 2, 3), move(0, 4, 3, 2)]
        self.assertEqual(last(calls + [differences(0, 3, 4)]), [1, 4])

    def test_the_same_location_by_another_move(self):
        calls = [move(0, 2, 0, 5), move(0, 2, 1, 5), move(0, 2, 0, 5)]
        self.assertEqual(lasts(calls, [differences(0, 1, 3), differences(0, 1, 2)]), [[0], [1, 2]])

    def test_the_bin_is_a_location_like_others(self):
        calls = [move(0, 2, 0, 5), move(0, 2, 1, 5), move(0, 3, 1, 6), move(0, 3, 1, 7)]
        self.assertEqual(
            lasts(calls, [differences(0, 1, 2), differences(0, 2, 3), differences(0, 3, 4), differences(0, 1, 4)]),
            [[1, 2], [1, 3], [1, 3], [2, 2, 3]])

    def test_what_is_below_a_moved_node_does_not_differ(self):
        calls = [move(0, 2, 0), move(0, 3, 2), move(0, 4, 3), move(0, 2, 1)]
        self.assertEqual(last(calls + [differences(0, 3, 4)]), [1, 2])

    def test_a_move_without_effect_makes_no_difference(self):
        calls = [move(0, 2, 0), move(0, 3, 9), move(0, 2, 2)]
        self.assertEqual(last(calls + [differences(0, 1, 3)]), [0])

    def test_ascending_order(self):
        calls = [move(0, 9, 0), move(0, 63, 0), move(0, 2, 9), move(0, 10, 63), move(0, 33, 0)]
        self.assertEqual(
            lasts(calls, [differences(0, 0, 5), differences(0, 5, 0), differences(0, 2, 5)]),
            [[5, 2, 9, 10, 33, 63], [5, 2, 9, 10, 33, 63], [3, 2, 10, 33]])

    def test_nodes_of_either_view_in_one_order(self):
        # The first view has 5 and 9 alone, the second one 3, 7 and 9.
        calls = [begin(3), move(1, 5, 0), move(0, 3, 0), move(0, 7, 0), move(0, 9, 0), move(1, 9, 0, 8),
                 deliver(1, 2), deliver(2, 2), deliver(3, 2), deliver(0, 2), deliver(4, 2)]
        self.assertEqual(last(calls + [differences(2, 3, 5, other_stamp=(0, 0))]), [3, 3, 7, 9])
        self.assertEqual(last(calls + [differences(2, 5, 3, (2, 0), (3, 0))]), [2, 5, 9])

    def test_every_node(self):
        self.assertEqual(last(chain() + [differences(0, 0, 62)]), [62] + list(range(2, 64)))


class Views(unittest.TestCase):
    def setUp(self):
        # Timestamps (1, 0), (2, 0), (1, 1), (2, 1); replica 2 learns of the last one first.
        self.calls = [begin(3), move(0, 2, 0, 10), move(0, 3, 0, 20), move(1, 4, 0, 11), move(1, 2, 0, 21),
                      deliver(3, 2), deliver(0, 2), deliver(2, 2), deliver(1, 2)]

    def test_a_view_and_itself(self):
        asked = lasts(self.calls, [differences(2, i, i) for i in range(5)]
                      + [differences(2, 3, 3, stamp, stamp) for stamp in ((0, 0), (1, 0), (1, 1), (2, 0))])
        self.assertEqual(asked, [[0]] * 9)

    def test_two_views_with_the_same_moves(self):
        self.assertEqual(
            lasts(self.calls, [differences(2, 2, 3, (1, 0), (1, 0)), differences(2, 3, 4, (1, 9), (1, 1))]), [[0]] * 2)

    def test_by_number(self):
        self.assertEqual(
            lasts(self.calls, [differences(2, 0, 1), differences(2, 1, 2), differences(2, 2, 3), differences(2, 0, 4),
                               differences(2, 4, 1)]),
            [[1, 2], [0], [1, 4], [3, 2, 3, 4], [2, 3, 4]])

    def test_by_timestamp(self):
        self.assertEqual(
            lasts(self.calls, [differences(2, 4, 4, (1, 0), (1, 1)), differences(2, 4, 4, (1, 0), (2, 0)),
                               differences(2, 4, 4, (2, 1), (2, 0)), differences(2, 4, 4, (0, GREATEST), (1, 0)),
                               differences(2, 4, 4, (GREATEST, 0), (1, GREATEST))]),
            [[1, 4], [2, 3, 4], [1, 2], [1, 2], [2, 2, 3]])

    def test_each_number_goes_with_its_own_timestamp(self):
        self.assertEqual(
            lasts(self.calls, [differences(2, 1, 4, (GREATEST, GREATEST), (1, 0)),
                               differences(2, 4, 1, (1, 0), (GREATEST, GREATEST)),
                               differences(2, 1, 4, (1, 0), (GREATEST, GREATEST)),
                               differences(2, 4, 1, (GREATEST, GREATEST), (1, 0)),
                               differences(2, 3, 4, (1, 1), (2, 0))]),
            [[1, 2], [1, 2], [3, 2, 3, 4], [3, 2, 3, 4], [1, 3]])

    def test_an_effect_lost_and_one_found_with_what_is_learned_later(self):
        calls = [begin(2), move(0, 2, 0, 1), move(0, 3, 0, 2), sync(0, 1), move(0, 2, 3, 3), move(1, 9, 0, 4),
                 move(1, 3, 2, 5), deliver(2, 1)]
        self.assertEqual(last(calls + [differences(1, 4, 5)]), [2, 2, 3])
        calls = [begin(2), move(0, 2, 0, 1), move(1, 3, 2, 5), deliver(0, 1)]
        self.assertEqual(lasts(calls, [differences(1, 0, 1), differences(1, 1, 2)]), [[0], [2, 2, 3]])


class Errors(unittest.TestCase):
    def test_no_such_replica(self):
        for replica in (1, 8, GREATEST):
            self.assertEqual(last([move(0, 2, 0), differences(replica, 0, 0)]), NO_SUCH)

    def test_more_moves_than_the_replica_knows(self):
        calls = [begin(2), move(0, 2, 0), move(0, 3, 0), deliver(1, 1)]
        for i in (2, 3, 80, 2 ** 32, GREATEST):
            self.assertEqual(
                lasts(calls, [differences(1, i, 1), differences(1, 1, i), differences(1, i, i),
                              differences(1, i, 0, (0, 0)), differences(1, 0, i, (0, 0), (0, 0))]),
                [OUT_OF_RANGE] * 5)

    def test_no_such_replica_comes_first(self):
        self.assertEqual(
            ask([differences(1, 1, 0), differences(1, 0, 1), differences(GREATEST, GREATEST, GREATEST)]), [NO_SUCH] * 3)

    def test_asking_changes_nothing(self):
        calls = [begin(2), move(0, 2, 0, 5), differences(0, 0, 1), differences(0, 1, 2), differences(0, 2, 1),
                 differences(2, 0, 0)]
        self.assertEqual(
            lasts(calls, [differences(0, 0, 1), known(0), known(1), tree_at(0, 1), move(1, 3, 0, 6)]),
            [[1, 2], [1, 0], [0], listing((2, 1, 5)), [1, 1, 1]])


if __name__ == "__main__":
    unittest.main()
