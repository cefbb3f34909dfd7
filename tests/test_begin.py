import unittest

from tests.asking import (
    GREATEST, NO_SUCH, OUT_OF_RANGE, ancestors, ask, begin, chain, deliver, last, lasts, listing, move, sync, tree_at)


class Begin(unittest.TestCase):
    def test_answers_zero(self):
        for replicas in range(1, 9):
            self.assertEqual(ask([begin(replicas)]), [[0]])

    def test_makes_as_many_replicas_as_told(self):
        for replicas in range(1, 9):
            asked = lasts([begin(replicas)], [tree_at(replica, 0) for replica in range(10)])
            self.assertEqual(asked, [[0]] * replicas + [NO_SUCH] * (10 - replicas))

    def test_refuses_other_numbers_of_replicas(self):
        for replicas in (0, 9, 10, 64, 2 ** 32, 2 ** 63, GREATEST):
            self.assertEqual(ask([begin(replicas)]), [OUT_OF_RANGE])

    def test_without_it_there_is_one_replica_that_knows_nothing(self):
        self.assertEqual(
            ask([tree_at(0, 0), tree_at(0, 1), tree_at(1, 0), deliver(0, 0), sync(0, 0), sync(0, 1)]),
            [[0], OUT_OF_RANGE, NO_SUCH, NO_SUCH, [0, 0, 0], NO_SUCH])
        self.assertEqual(ask([move(0, 2, 0, 5), tree_at(0, 1)]), [[0, 1, 1], listing((2, 1, 5))])

    def test_in_the_middle_forgets_moves_knowledge_and_counters(self):
        calls = [begin(2), move(0, 2, 0, 5), move(0, 3, 2, 6), sync(0, 1), begin(2)]
        self.assertEqual(
            lasts(calls, [tree_at(0, 0), tree_at(0, 1), tree_at(1, 1), deliver(0, 1), ancestors(0, 0, 2),
                          move(1, 3, 2, 7), move(1, 2, 1, 8), tree_at(1, 2)]),
            [[0], OUT_OF_RANGE, OUT_OF_RANGE, NO_SUCH, [-3], [0, 1, 2], [1, 2, 1], [0]])

    def test_in_the_middle_sets_the_number_of_replicas(self):
        self.assertEqual(
            ask([begin(3), tree_at(2, 0), begin(2), tree_at(2, 0), begin(8), tree_at(7, 0), begin(1), tree_at(1, 0)]),
            [[0], [0], [0], NO_SUCH, [0], [0], [0], NO_SUCH])

    def test_in_the_middle_makes_room_for_moves(self):
        full = [move(0, 2, 0, label) for label in range(80)]
        asked = ask(full + [move(0, 2, 0), begin(1)] + full + [move(0, 2, 0)])
        self.assertEqual(asked[80:82], [[-5], [0]])
        self.assertEqual(asked[82:162], asked[:80])
        self.assertEqual(asked[162], [-5])

    def test_refused_in_the_middle_changes_nothing(self):
        calls = chain()[:4] + [begin(0), begin(9), begin(GREATEST)]
        self.assertEqual(
            last(calls + [tree_at(0, 4)]),
            listing((2, 1, 1002), (3, 2, 1003), (4, 3, 1004), (5, 4, 1005)))
        self.assertEqual(last(calls + [move(0, 6, 0)]), [4, 5, 1])
        self.assertEqual(last(calls + [tree_at(1, 0)]), NO_SUCH)


if __name__ == "__main__":
    unittest.main()
