import unittest

from tests.asking import (
    GREATEST, NO_ROOM, NO_SUCH, OUT_OF_RANGE, ancestors, ask, begin, chain, deliver, last, lasts, listing, move,
    sync, tree_at)


class Answer(unittest.TestCase):
    def test_numbers_count_over_all_replicas(self):
        asked = ask([begin(3), move(0, 2, 0), move(2, 3, 0), move(1, 4, 0), move(0, 5, 0)])
        self.assertEqual(asked[1:], [[0, 1, 1], [1, 1, 1], [2, 1, 1], [3, 2, 1]])

    def test_counter_is_one_more_than_the_greatest_known(self):
        asked = ask([begin(2), move(0, 2, 0), move(0, 3, 0), move(0, 4, 0), deliver(2, 1), move(1, 5, 0),
                     deliver(0, 1), move(1, 6, 0), move(0, 7, 0)])
        # Replica 1 knows one move, with counter 3; an earlier one learned later does not matter.
        self.assertEqual(asked[5], [3, 4, 1])
        self.assertEqual(asked[7], [4, 5, 1])
        self.assertEqual(asked[8], [5, 4, 1])

    def test_counter_goes_on_from_what_sync_has_brought(self):
        asked = ask([begin(3), move(0, 2, 0), move(0, 3, 0), sync(2, 0), move(2, 4, 0), move(1, 4, 0)])
        self.assertEqual(asked[4:], [[2, 3, 1], [3, 1, 1]])

    def test_moves_without_effect_count_too(self):
        asked = ask([move(0, 2, 3), move(0, 2, 2), move(0, 2, 0), move(0, 2, 2), move(0, 2, 0)])
        self.assertEqual(asked, [[0, 1, 2], [1, 2, 2], [2, 3, 1], [3, 4, 3], [4, 5, 1]])


class Outcome(unittest.TestCase):
    def test_root_and_bin_are_there_from_the_start(self):
        self.assertEqual(ask([move(0, 2, 0), move(0, 3, 1)]), [[0, 1, 1], [1, 2, 1]])

    def test_two_if_the_parent_does_not_exist(self):
        self.assertEqual(
            ask([move(0, 2, 3, 7), tree_at(0, 1), ancestors(0, 1, 2), move(0, 2, 0, 8), move(0, 2, 63, 9),
                 tree_at(0, 3)]),
            [[0, 1, 2], [0], [-3], [1, 2, 1], [2, 3, 2], listing((2, 1, 8))])

    def test_two_comes_ahead_of_three(self):
        # The node is its own parent to be, but it does not exist.
        self.assertEqual(ask([move(0, 5, 5), ancestors(0, 1, 5)]), [[0, 1, 2], [-3]])

    def test_three_if_the_parent_is_the_node_itself(self):
        self.assertEqual(
            ask([move(0, 5, 0, 1), move(0, 5, 5, 2), tree_at(0, 2)]),
            [[0, 1, 1], [1, 2, 3], listing((5, 1, 1))])

    def test_three_if_the_parent_is_below_the_node(self):
        calls = [move(0, 2, 0, 1), move(0, 3, 2, 2), move(0, 4, 3, 3)]
        unchanged = listing((2, 1, 1), (3, 2, 2), (4, 3, 3))
        self.assertEqual(lasts(calls, [move(0, 2, 3, 9), tree_at(0, 4)]), [[3, 4, 3], unchanged])
        self.assertEqual(lasts(calls, [move(0, 2, 4, 9), tree_at(0, 4)]), [[3, 4, 3], unchanged])
        self.assertEqual(lasts(calls, [move(0, 3, 4, 9), tree_at(0, 4)]), [[3, 4, 3], unchanged])

    def test_three_far_below_and_in_the_bin(self):
        self.assertEqual(last(chain() + [move(0, 2, 63)]), [62, 63, 3])
        self.assertEqual(last([move(0, 2, 1), move(0, 3, 2), move(0, 4, 3), move(0, 2, 4)]), [3, 4, 3])

    def test_one_if_the_parent_is_above_the_node_already(self):
        calls = [move(0, 2, 0, 1), move(0, 3, 2, 2), move(0, 4, 3, 3)]
        self.assertEqual(
            lasts(calls, [move(0, 4, 2, 5), tree_at(0, 4)]), [[3, 4, 1], listing((2, 1, 1), (3, 2, 2), (4, 2, 5))])
        self.assertEqual(
            lasts(calls, [move(0, 4, 3, 5), tree_at(0, 4)]), [[3, 4, 1], listing((2, 1, 1), (3, 2, 2), (4, 3, 5))])

    def test_depends_on_what_this_replica_knows(self):
        asked = ask([begin(2), move(0, 2, 0), move(1, 3, 2), deliver(0, 1), move(1, 3, 2), move(0, 4, 3)])
        self.assertEqual([asked[2], asked[4], asked[5]], [[1, 1, 2], [2, 2, 1], [3, 2, 2]])

    def test_takes_along_what_is_below(self):
        calls = [move(0, 2, 0, 1), move(0, 3, 0, 2), move(0, 4, 3, 3), move(0, 5, 4, 4)]
        self.assertEqual(
            lasts(calls, [move(0, 3, 2, 9), tree_at(0, 5), ancestors(0, 5, 5)]),
            [[4, 5, 1], listing((2, 1, 1), (3, 2, 9), (4, 3, 3), (5, 4, 4)), [5, 5, 4, 3, 2, 0]])

    def test_into_the_bin_and_out_of_it(self):
        calls = [move(0, 3, 0, 2), move(0, 4, 3, 3)]
        self.assertEqual(
            lasts(calls, [move(0, 3, 1, 5), tree_at(0, 3), ancestors(0, 3, 4), move(0, 5, 4, 6), move(0, 3, 0, 7),
                          tree_at(0, 5)]),
            [[2, 3, 1], [0], [3, 4, 3, 1], [3, 4, 1], [4, 5, 1], listing((3, 1, 7), (4, 2, 3), (5, 3, 6))])

    def test_once_moved_a_node_exists_for_ever(self):
        asked = ask([move(0, 2, 0), move(0, 2, 1), move(0, 3, 2), ancestors(0, 3, 3)])
        self.assertEqual(asked[2:], [[2, 3, 1], [3, 3, 2, 1]])


class Edges(unittest.TestCase):
    def test_greatest_node_and_label(self):
        self.assertEqual(
            ask([move(0, 63, 0, 1000000000), move(0, 2, 63, 0), tree_at(0, 2)]),
            [[0, 1, 1], [1, 2, 1], listing((63, 1, 1000000000), (2, 2, 0))])

    def test_eight_replicas(self):
        calls = [begin(8)] + [move(replica, 2, 0, replica) for replica in range(8)]
        self.assertEqual(ask(calls)[1:], [[number, 1, 1] for number in range(8)])

    def test_eighty_moves_at_several_replicas(self):
        calls = [begin(8)] + [move(number % 8, 2 + number % 62, 0, number) for number in range(80)]
        asked = ask(calls + [move(0, 2, 0), move(7, 2, 0), tree_at(0, 10), tree_at(0, 11), deliver(80, 0)])
        self.assertEqual(asked[1:81], [[number, 1 + number // 8, 1] for number in range(80)])
        self.assertEqual(asked[81:83], [NO_ROOM, NO_ROOM])
        self.assertEqual(asked[83][0], 10)
        self.assertEqual(asked[84:], [OUT_OF_RANGE, NO_SUCH])


class Errors(unittest.TestCase):
    def test_no_such_replica(self):
        self.assertEqual(ask([move(1, 2, 0)]), [NO_SUCH])
        for replica in (3, 4, 8, 2 ** 32, GREATEST):
            self.assertEqual(last([begin(3), move(replica, 2, 0)]), NO_SUCH)

    def test_node_out_of_range(self):
        for node in (0, 1, 64, 65, 2 ** 32, 2 ** 64 - 64, GREATEST):
            self.assertEqual(ask([move(0, node, 0)]), [OUT_OF_RANGE])

    def test_parent_out_of_range(self):
        for parent in (64, 65, 2 ** 32, GREATEST):
            self.assertEqual(ask([move(0, 2, parent)]), [OUT_OF_RANGE])

    def test_label_out_of_range(self):
        for label in (1000000001, 2 ** 32, GREATEST):
            self.assertEqual(ask([move(0, 2, 0, label)]), [OUT_OF_RANGE])

    def test_order_of_the_errors(self):
        full = [begin(2)] + [move(0, 2, 0)] * 80
        self.assertEqual(
            lasts(full, [move(2, 0, 64, GREATEST), move(2, 2, 0), move(0, 0, 0), move(0, 1, 0), move(0, 64, 0),
                         move(0, 2, 64), move(1, 2, 0, 1000000001), move(1, 2, 0)]),
            [NO_SUCH, NO_SUCH] + [OUT_OF_RANGE] * 5 + [NO_ROOM])
        self.assertEqual(ask([move(1, 0, 64, GREATEST)]), [NO_SUCH])

    def test_a_parent_that_does_not_exist_is_an_outcome_not_an_error(self):
        self.assertEqual(ask([move(0, 2, 63)]), [[0, 1, 2]])

    def test_an_error_changes_nothing(self):
        wrong = [move(2, 3, 0), move(0, 0, 0), move(0, 1, 0), move(0, 64, 0), move(0, 3, 64), move(1, 3, 0, 1000000001)]
        self.assertEqual(
            lasts([begin(2), move(0, 2, 0, 4)] + wrong,
                  [tree_at(0, 1), tree_at(0, 2), tree_at(1, 1), deliver(1, 0), ancestors(0, 1, 3), move(1, 2, 0),
                   move(0, 2, 0)]),
            [listing((2, 1, 4)), OUT_OF_RANGE, OUT_OF_RANGE, NO_SUCH, [-3], [1, 1, 1], [2, 2, 1]])

    def test_a_move_too_many_changes_nothing(self):
        full = [begin(2)] + [move(0, 2, 0, label) for label in range(80)]
        self.assertEqual(
            lasts(full + [move(0, 3, 0), move(1, 3, 0)],
                  [tree_at(0, 80), tree_at(0, 81), tree_at(1, 1), deliver(80, 1), deliver(79, 1)]),
            [listing((2, 1, 79)), OUT_OF_RANGE, OUT_OF_RANGE, NO_SUCH, [1]])


if __name__ == "__main__":
    unittest.main()
