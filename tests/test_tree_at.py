import unittest

from tests.asking import (
    GREATEST, NO_SUCH, OUT_OF_RANGE, ask, begin, chain, deliver, last, lasts, listing, move, sync, tree_at)


class Listing(unittest.TestCase):
    def test_nothing_below_the_root(self):
        self.assertEqual(ask([tree_at(0, 0)]), [[0]])
        self.assertEqual(last([move(0, 2, 1), move(0, 3, 2), tree_at(0, 2)]), [0])

    def test_children_ascend_whatever_the_order_of_the_moves(self):
        calls = [move(0, 9, 0, 1), move(0, 2, 0, 2), move(0, 63, 0, 3), move(0, 10, 0, 4)]
        self.assertEqual(last(calls + [tree_at(0, 4)]), listing((2, 1, 2), (9, 1, 1), (10, 1, 4), (63, 1, 3)))

    def test_each_child_is_followed_by_all_below_it(self):
        calls = [move(0, 7, 0, 70), move(0, 5, 0, 50), move(0, 9, 5, 90), move(0, 2, 9, 20), move(0, 8, 5, 80),
                 move(0, 3, 7, 30), move(0, 4, 9, 40), move(0, 6, 3, 60)]
        self.assertEqual(
            last(calls + [tree_at(0, 8)]),
            listing((5, 1, 50), (8, 2, 80), (9, 2, 90), (2, 3, 20), (4, 3, 40), (7, 1, 70), (3, 2, 30), (6, 3, 60)))

    def test_what_is_in_the_bin_is_left_out(self):
        calls = [move(0, 2, 0, 5), move(0, 3, 1, 6), move(0, 4, 3, 7), move(0, 5, 2, 8)]
        self.assertEqual(last(calls + [tree_at(0, 4)]), listing((2, 1, 5), (5, 2, 8)))

    def test_every_node_side_by_side(self):
        calls = [move(0, node, 0, node * 10) for node in range(63, 1, -1)]
        self.assertEqual(last(calls + [tree_at(0, 62)]), listing(*[(node, 1, node * 10) for node in range(2, 64)]))

    def test_every_node_below_one_another(self):
        self.assertEqual(
            last(chain() + [tree_at(0, 62)]), listing(*[(node, node - 1, 1000 + node) for node in range(2, 64)]))

    def test_depth_follows_a_moved_node(self):
        calls = [move(0, 2, 0, 5), move(0, 3, 2, 6), move(0, 4, 3, 7), move(0, 5, 0, 8), move(0, 3, 5, 9)]
        self.assertEqual(
            lasts(calls, [tree_at(0, 4), tree_at(0, 5)]),
            [listing((2, 1, 5), (3, 2, 6), (4, 3, 7), (5, 1, 8)),
             listing((2, 1, 5), (5, 1, 8), (3, 2, 9), (4, 3, 7))])

    def test_greatest_label(self):
        self.assertEqual(
            last([move(0, 63, 0, 1000000000), move(0, 2, 63, 0), tree_at(0, 2)]),
            listing((63, 1, 1000000000), (2, 2, 0)))


class ByNumber(unittest.TestCase):
    def test_the_first_moves_in_the_order_of_learning(self):
        calls = [begin(2), move(0, 2, 0, 5), move(0, 3, 0, 6), move(0, 4, 0, 7),
                 deliver(1, 1), deliver(2, 1), deliver(0, 1)]
        self.assertEqual(
            lasts(calls, [tree_at(1, i) for i in range(5)]),
            [[0], listing((3, 1, 6)), listing((3, 1, 6), (4, 1, 7)), listing((2, 1, 5), (3, 1, 6), (4, 1, 7)),
             OUT_OF_RANGE])

    def test_an_earlier_view_after_later_moves(self):
        calls = [move(0, 2, 0, 5), move(0, 2, 1, 6), move(0, 2, 0, 7)]
        self.assertEqual(
            lasts(calls, [tree_at(0, i) for i in range(4)]), [[0], listing((2, 1, 5)), [0], listing((2, 1, 7))])

    def test_the_two_numbers_are_not_mixed_up(self):
        # Replica 1 has learned of the third move first.
        calls = [begin(2), move(0, 2, 0, 5), move(0, 3, 0, 6), move(0, 4, 0, 7), deliver(2, 1), deliver(0, 1)]
        self.assertEqual(
            lasts(calls, [tree_at(1, 2, 1, GREATEST), tree_at(1, 1, 2, GREATEST), tree_at(1, 1, 3, 0)]),
            [listing((2, 1, 5)), [0], listing((4, 1, 7))])


class ByTimestamp(unittest.TestCase):
    def setUp(self):
        # The timestamps are (1, 0), (2, 0), (1, 1), (2, 1), (1, 2); replica 2 knows them in another order.
        self.calls = [begin(3), move(0, 2, 0, 10), move(0, 3, 0, 20), move(1, 4, 0, 11), move(1, 5, 0, 21),
                      move(2, 6, 0, 12), deliver(3, 2), deliver(1, 2), deliver(2, 2), deliver(0, 2)]

    def nodes(self, counter, origin, i=5):
        return last(self.calls + [tree_at(2, i, counter, origin)])[1::3]

    def test_not_later_includes_the_timestamp_itself(self):
        self.assertEqual(self.nodes(1, 0), [2])
        self.assertEqual(self.nodes(1, 1), [2, 4])
        self.assertEqual(self.nodes(1, 2), [2, 4, 6])
        self.assertEqual(self.nodes(2, 0), [2, 3, 4, 6])
        self.assertEqual(self.nodes(2, 1), [2, 3, 4, 5, 6])

    def test_any_numbers_at_all(self):
        self.assertEqual(self.nodes(0, 0), [])
        self.assertEqual(self.nodes(0, GREATEST), [])
        self.assertEqual(self.nodes(1, 3), [2, 4, 6])
        self.assertEqual(self.nodes(1, 8), [2, 4, 6])
        self.assertEqual(self.nodes(1, GREATEST), [2, 4, 6])
        self.assertEqual(self.nodes(3, 0), [2, 3, 4, 5, 6])
        self.assertEqual(self.nodes(2 ** 63, 2 ** 63), [2, 3, 4, 5, 6])
        self.assertEqual(self.nodes(GREATEST, 0), [2, 3, 4, 5, 6])
        self.assertEqual(self.nodes(GREATEST, GREATEST), [2, 3, 4, 5, 6])

    def test_together_with_a_number(self):
        self.assertEqual(self.nodes(1, GREATEST, 3), [6])
        self.assertEqual(self.nodes(1, GREATEST, 4), [4, 6])
        self.assertEqual(self.nodes(2, 0, 3), [3, 6])
        self.assertEqual(self.nodes(GREATEST, GREATEST, 0), [])

    def test_outcomes_are_those_among_the_moves_of_the_view(self):
        # Replica 1 learns of the one that makes the parent last of all.
        calls = [begin(2), move(0, 2, 0, 5), move(0, 3, 2, 6), move(0, 2, 1, 7), move(0, 4, 3, 8),
                 deliver(3, 1), deliver(1, 1), deliver(0, 1)]
        self.assertEqual(
            lasts(calls, [tree_at(1, 2), tree_at(1, 3), tree_at(1, 3, 2, 0), tree_at(0, 4), tree_at(0, 4, 2, 9)]),
            [[0], listing((2, 1, 5), (3, 2, 6), (4, 3, 8)), listing((2, 1, 5), (3, 2, 6)), [0],
             listing((2, 1, 5), (3, 2, 6))])


class Conflicts(unittest.TestCase):
    def test_equal_counters_the_greater_replica_is_later(self):
        calls = [begin(3), move(2, 2, 0, 22), move(1, 2, 0, 11), sync(1, 2), sync(0, 1)]
        self.assertEqual(
            lasts(calls, [tree_at(0, 2), tree_at(1, 2), tree_at(2, 2), tree_at(0, 2, 1, 1)]),
            [listing((2, 1, 22))] * 3 + [listing((2, 1, 11))])

    def test_two_nodes_moved_below_one_another(self):
        calls = [begin(2), move(0, 2, 0, 1), move(0, 3, 0, 2), sync(0, 1), move(1, 2, 3, 4), move(0, 3, 2, 5),
                 sync(0, 1)]
        # The one of replica 0 is earlier, though it is made later; the other one would go below itself.
        merged = listing((2, 1, 1), (3, 2, 5))
        self.assertEqual(
            lasts(calls, [tree_at(0, 4), tree_at(1, 4), tree_at(1, 3)]),
            [merged, merged, listing((3, 1, 2), (2, 2, 4))])

    def test_a_move_refused_when_made_takes_effect_when_the_parent_is_known(self):
        calls = [begin(2), move(0, 2, 0, 1), move(1, 3, 2, 5), deliver(0, 1)]
        self.assertEqual(lasts(calls, [tree_at(1, 1), tree_at(1, 2)]), [[0], listing((2, 1, 1), (3, 2, 5))])

    def test_a_move_that_had_an_effect_loses_it_when_an_earlier_one_is_known(self):
        calls = [begin(2), move(0, 2, 0, 1), move(0, 3, 0, 2), sync(0, 1), move(0, 2, 3, 3), move(1, 9, 0, 4),
                 move(1, 3, 2, 5), deliver(2, 1)]
        self.assertEqual(
            lasts(calls, [tree_at(1, 4), tree_at(1, 5)]),
            [listing((2, 1, 1), (3, 2, 5), (9, 1, 4)), listing((3, 1, 2), (2, 2, 3), (9, 1, 4))])


class Errors(unittest.TestCase):
    def test_no_such_replica(self):
        for replica in (1, 2, 8, GREATEST):
            self.assertEqual(ask([tree_at(replica, 0)]), [NO_SUCH])

    def test_more_moves_than_the_replica_knows(self):
        calls = [begin(2), move(0, 2, 0), move(0, 3, 0), deliver(1, 1)]
        for i in (2, 3, 80, 2 ** 32, GREATEST):
            self.assertEqual(last(calls + [tree_at(1, i)]), OUT_OF_RANGE)
            self.assertEqual(last(calls + [tree_at(1, i, 0, 0)]), OUT_OF_RANGE)
        self.assertEqual(last(calls + [tree_at(0, 3)]), OUT_OF_RANGE)

    def test_no_such_replica_comes_first(self):
        self.assertEqual(ask([tree_at(1, 1), tree_at(GREATEST, GREATEST)]), [NO_SUCH] * 2)

    def test_asking_changes_nothing(self):
        calls = [begin(2), move(0, 2, 0, 5), tree_at(0, 1), tree_at(0, 2), tree_at(2, 0), tree_at(1, 1)]
        self.assertEqual(
            lasts(calls, [tree_at(0, 1), tree_at(0, 2), tree_at(1, 1), tree_at(2, 0), move(0, 3, 2, 6), tree_at(0, 2)]),
            [listing((2, 1, 5)), OUT_OF_RANGE, OUT_OF_RANGE, NO_SUCH, [1, 2, 1], listing((2, 1, 5), (3, 2, 6))])


if __name__ == "__main__":
    unittest.main()
