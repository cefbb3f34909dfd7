import unittest

from tests.asking import (
    GREATEST, NO_SUCH, ask, begin, deliver, history, known, last, lasts, listing, move, sync, tree_at)


class Moves(unittest.TestCase):
    def test_number_parent_and_label_of_each(self):
        calls = [move(0, 9, 0, 5), move(0, 2, 9, 6), move(0, 2, 1, 7), move(0, 9, 2, 8), move(0, 2, 0, 9)]
        self.assertEqual(
            lasts(calls, [history(0, 2), history(0, 9)]),
            [listing((1, 9, 6), (2, 1, 7), (4, 0, 9)), listing((0, 0, 5), (3, 2, 8))])

    def test_a_node_that_was_never_moved(self):
        self.assertEqual(lasts([move(0, 2, 0)], [history(0, 3), history(0, 63)]), [[0]] * 2)

    def test_the_root_and_the_bin(self):
        self.assertEqual(lasts([move(0, 2, 0), move(0, 3, 1)], [history(0, 0), history(0, 1)]), [[0]] * 2)

    def test_a_number_of_no_node_at_all(self):
        for node in (64, 65, 2 ** 32, GREATEST):
            self.assertEqual(lasts([move(0, 2, 0)], [history(0, node)]), [[0]])

    def test_first_and_last_node(self):
        self.assertEqual(
            lasts([move(0, 63, 0, 1000000000), move(0, 2, 63)], [history(0, 63), history(0, 2)]),
            [listing((0, 0, 1000000000)), listing((1, 63, 0))])

    def test_the_same_location_twice_is_two_moves(self):
        self.assertEqual(last([move(0, 2, 0, 5), move(0, 2, 0, 5), history(0, 2)]), listing((0, 0, 5), (1, 0, 5)))

    def test_eighty_moves_of_one_node(self):
        calls = [move(0, 5, number % 2, number) for number in range(80)]
        self.assertEqual(
            last(calls + [history(0, 5)]), listing(*[(number, number % 2, number) for number in range(80)]))

    def test_at_first(self):
        self.assertEqual(ask([history(0, 2), history(0, 0), history(0, 64)]), [[0]] * 3)


class Known(unittest.TestCase):
    def test_only_what_the_replica_knows(self):
        calls = [begin(2), move(0, 2, 0, 5), move(0, 2, 0, 6), move(0, 2, 0, 7), deliver(1, 1)]
        self.assertEqual(
            lasts(calls, [history(1, 2), history(0, 2)]),
            [listing((1, 0, 6)), listing((0, 0, 5), (1, 0, 6), (2, 0, 7))])

    def test_in_the_order_of_the_timestamps(self):
        # The timestamps are (1, 1), (2, 1), (1, 0), (2, 0), (3, 0).
        calls = [begin(3), move(1, 2, 0, 5), move(1, 2, 0, 6), move(0, 2, 0, 7), move(0, 2, 0, 8), move(0, 2, 0, 9)]
        calls += [deliver(number, 2) for number in (4, 1, 3, 0, 2)]
        self.assertEqual(
            last(calls + [history(2, 2)]),
            listing((2, 0, 7), (0, 0, 5), (3, 0, 8), (1, 0, 6), (4, 0, 9)))

    def test_begin_in_the_middle(self):
        self.assertEqual(last([move(0, 2, 0, 5), begin(1), history(0, 2)]), [0])


class Outcomes(unittest.TestCase):
    def test_moves_without_effect_are_left_out(self):
        calls = [move(0, 2, 9, 5), move(0, 2, 0, 6), move(0, 2, 2, 7), move(0, 3, 2, 8), move(0, 2, 3, 9)]
        self.assertEqual(lasts(calls, [history(0, 2), history(0, 9)]), [listing((1, 0, 6)), [0]])

    def test_a_move_that_takes_effect_with_what_is_learned_later(self):
        calls = [begin(2), move(0, 2, 0, 5), move(1, 9, 2, 7), history(1, 9), deliver(0, 1), history(1, 9)]
        asked = ask(calls)
        self.assertEqual([asked[3], asked[5]], [[0], listing((1, 2, 7))])

    def test_a_move_that_loses_its_effect_with_what_is_learned_later(self):
        calls = [begin(2), move(0, 2, 0, 1), move(0, 3, 0, 2), sync(0, 1), move(0, 2, 3, 3), move(1, 9, 0, 4),
                 move(1, 3, 2, 5), history(1, 3), deliver(2, 1), history(1, 3), history(1, 2)]
        asked = ask(calls)
        self.assertEqual(
            [asked[7], asked[9], asked[10]],
            [listing((1, 0, 2), (4, 2, 5)), listing((1, 0, 2)), listing((0, 0, 1), (2, 3, 3))])

    def test_a_move_that_is_undone_by_a_later_one_still_counts(self):
        calls = [begin(2), move(0, 2, 0, 5), move(0, 2, 1, 6), deliver(1, 1), deliver(0, 1)]
        self.assertEqual(last(calls + [history(1, 2)]), listing((0, 0, 5), (1, 1, 6)))


class Errors(unittest.TestCase):
    def test_no_such_replica(self):
        for replica in (1, 8, GREATEST):
            self.assertEqual(
                lasts([move(0, 2, 0)], [history(replica, node) for node in (0, 2, 64, GREATEST)]), [NO_SUCH] * 4)

    def test_asking_changes_nothing(self):
        calls = [begin(2), move(0, 2, 0, 5), history(0, 2), history(0, 64), history(2, 2)]
        self.assertEqual(
            lasts(calls, [history(0, 2), known(0), known(1), tree_at(0, 1), move(1, 3, 0, 6)]),
            [listing((0, 0, 5)), [1, 0], [0], listing((2, 1, 5)), [1, 1, 1]])


if __name__ == "__main__":
    unittest.main()
