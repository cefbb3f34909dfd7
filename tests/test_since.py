import unittest

from tests.asking import (
    GREATEST, NO_SUCH, OUT_OF_RANGE, ask, begin, deliver, known, last, lasts, listing, move, since, sync, tree_at)


class Located(unittest.TestCase):
    def test_from_its_only_move_on(self):
        calls = [move(0, 5, 0), move(0, 2, 0), move(0, 3, 2), move(0, 6, 1)]
        self.assertEqual(lasts(calls, [since(0, node) for node in (5, 2, 3, 6)]), [[1], [2], [3], [4]])

    def test_from_its_last_change_on(self):
        calls = [move(0, 2, 0, 5), move(0, 3, 0, 6), move(0, 2, 3, 5), move(0, 4, 0, 7)]
        self.assertEqual(lasts(calls, [since(0, 2), since(0, 3)]), [[3], [2]])

    def test_another_label_is_another_location(self):
        self.assertEqual(last([move(0, 2, 0, 5), move(0, 2, 0, 6), move(0, 3, 0, 7), since(0, 2)]), [2])

    def test_came_and_went_and_came_again(self):
        calls = [move(0, 2, 0, 5), move(0, 2, 1, 5), move(0, 2, 0, 5), move(0, 3, 0, 7)]
        self.assertEqual(last(calls + [since(0, 2)]), [3])
        calls += [move(0, 2, 0, 6), move(0, 2, 0, 5), move(0, 3, 0, 8)]
        self.assertEqual(last(calls + [since(0, 2)]), [6])

    def test_put_again_where_it_is(self):
        calls = [move(0, 3, 0, 7), move(0, 2, 0, 5), move(0, 2, 0, 5), move(0, 2, 0, 5)]
        self.assertEqual(last(calls + [since(0, 2)]), [2])

    def test_moves_without_effect_change_no_location(self):
        calls = [move(0, 2, 0, 5), move(0, 2, 9, 6), move(0, 2, 2, 7), move(0, 3, 2, 8), move(0, 2, 3, 9)]
        self.assertEqual(last(calls + [since(0, 2)]), [1])

    def test_moved_along_is_not_moved(self):
        calls = [move(0, 2, 0), move(0, 3, 2), move(0, 2, 1), move(0, 2, 0)]
        self.assertEqual(last(calls + [since(0, 3)]), [2])

    def test_first_and_last_node(self):
        self.assertEqual(lasts([move(0, 2, 0), move(0, 63, 0)], [since(0, 2), since(0, 63)]), [[1], [2]])

    def test_eighty_moves(self):
        calls = [move(0, 2 + number // 40, 0, number % 40) for number in range(80)]
        self.assertEqual(lasts(calls, [since(0, 2), since(0, 3)]), [[40], [80]])


class Unlocated(unittest.TestCase):
    def test_at_first(self):
        self.assertEqual(ask([since(0, node) for node in (0, 1, 2, 63)]), [[0]] * 4)

    def test_the_root_and_the_bin(self):
        self.assertEqual(lasts([move(0, 2, 0), move(0, 3, 1)], [since(0, 0), since(0, 1)]), [[0]] * 2)

    def test_a_node_that_was_never_moved(self):
        self.assertEqual(lasts([move(0, 2, 0), move(0, 3, 0)], [since(0, 4), since(0, 63)]), [[0]] * 2)

    def test_a_node_that_was_moved_without_effect_alone(self):
        self.assertEqual(
            lasts([move(0, 2, 0), move(0, 3, 9), move(0, 9, 3)], [since(0, 3), since(0, 9)]), [[0]] * 2)


class Learning(unittest.TestCase):
    def test_counted_in_the_order_in_which_the_replica_has_learned(self):
        calls = [begin(2), move(0, 2, 0), move(0, 3, 0), move(0, 4, 0), deliver(2, 1), deliver(0, 1), deliver(1, 1)]
        self.assertEqual(
            lasts(calls, [since(1, node) for node in (2, 3, 4)] + [since(0, node) for node in (2, 3, 4)]),
            [[2], [3], [1], [1], [2], [3]])

    def test_an_earlier_move_of_the_node_learned_later_changes_nothing(self):
        calls = [begin(2), move(0, 2, 0, 5), move(0, 2, 1, 6), deliver(1, 1), deliver(0, 1)]
        self.assertEqual(lasts(calls, [since(1, 2), since(0, 2)]), [[1], [2]])

    def test_a_move_that_takes_effect_with_what_is_learned_later(self):
        calls = [begin(2), move(0, 2, 0), move(1, 5, 0), move(1, 3, 2), move(1, 6, 0), deliver(0, 1)]
        self.assertEqual(lasts(calls, [since(1, node) for node in (2, 3, 5, 6)]), [[4], [4], [1], [3]])

    def test_a_move_that_loses_its_effect_with_what_is_learned_later(self):
        # After two moves and three, node 3 is where it is again at the end; after four it is below node 2.
        calls = [begin(2), move(0, 2, 0, 1), move(0, 3, 0, 2), sync(0, 1), move(0, 2, 3, 3), move(1, 9, 0, 4),
                 move(1, 3, 2, 5), since(1, 3), deliver(2, 1)]
        asked = ask(calls + [since(1, 3), since(1, 2), since(1, 9)])
        self.assertEqual([asked[7]] + asked[-3:], [[4], [5], [5], [3]])

    def test_up_to_now(self):
        calls = [begin(2), move(0, 2, 0, 5), since(0, 2), move(0, 2, 1, 6), since(0, 2), move(0, 2, 0, 5), since(0, 2)]
        self.assertEqual(ask(calls)[2::2], [[1], [2], [3]])

    def test_begin_in_the_middle(self):
        self.assertEqual(last([move(0, 2, 0), begin(1), since(0, 2)]), [0])


class Errors(unittest.TestCase):
    def test_no_such_replica(self):
        for replica in (1, 8, GREATEST):
            self.assertEqual(
                lasts([move(0, 2, 0)], [since(replica, node) for node in (0, 2, 63)]), [NO_SUCH] * 3)

    def test_a_number_of_no_node_at_all(self):
        for node in (64, 65, 2 ** 32, GREATEST):
            self.assertEqual(ask([since(0, node), move(0, 2, 0), since(0, node)]),
                             [OUT_OF_RANGE, [0, 1, 1], OUT_OF_RANGE])

    def test_no_such_replica_comes_first(self):
        self.assertEqual(ask([since(1, 64), since(GREATEST, GREATEST)]), [NO_SUCH] * 2)

    def test_asking_changes_nothing(self):
        calls = [begin(2), move(0, 2, 0, 5), since(0, 2), since(0, 3), since(0, 64), since(2, 2)]
        self.assertEqual(
            lasts(calls, [since(0, 2), known(0), known(1), tree_at(0, 1), move(1, 3, 0, 6)]),
            [[1], [1, 0], [0], listing((2, 1, 5)), [1, 1, 1]])


if __name__ == "__main__":
    unittest.main()
