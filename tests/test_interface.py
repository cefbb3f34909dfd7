import unittest

from pastviews.replicas import answers
from tests.asking import (
    GREATEST, apart, begin, chain, deliver, differences, history, joined, known, listing, move, since, surprises, sync,
    tree_at)


class Numbers(unittest.TestCase):
    """The lists are written out here, number by number, as the interface tells them."""

    def test_each_call_alone(self):
        self.assertEqual(answers([1, 3]), [1, 0])
        self.assertEqual(answers([2, 0, 2, 0, 7]), [3, 0, 1, 1])
        self.assertEqual(answers([3, 0, 0]), [1, -2])
        self.assertEqual(answers([4, 0, 0]), [3, 0, 0, 0])
        self.assertEqual(answers([5, 0, 0, 0, 0]), [1, 0])
        self.assertEqual(answers([6, 0, 0, 0, 0, 1]), [2, 1, 1])
        self.assertEqual(answers([7, 0, 0, 0, 0, 2]), [1, -3])
        self.assertEqual(answers([8, 0, 0, 0, 0, 0, 1, 1]), [1, 0])
        self.assertEqual(answers([9, 0, 2]), [1, 0])
        self.assertEqual(answers([10, 0, 2]), [1, 0])
        self.assertEqual(answers([11, 0]), [1, 0])
        self.assertEqual(answers([12, 0]), [1, 0])

    def test_calls_behind_one_another(self):
        self.assertEqual(
            answers([1, 2,
                     2, 0, 2, 0, 7,
                     2, 0, 3, 2, 8,
                     3, 1, 1,
                     4, 1, 0,
                     5, 1, 2, GREATEST, GREATEST,
                     6, 1, 2, 2, 0, 3,
                     7, 1, 2, 2, 0, 3,
                     8, 1, 1, GREATEST, GREATEST, 2, GREATEST, GREATEST,
                     9, 1, 3,
                     10, 1, 3,
                     11, 1,
                     12, 1,
                     7, 1, 2, 1, 0, 2]),
            [1, 0,
             3, 0, 1, 1,
             3, 1, 2, 1,
             1, 1,
             3, 2, 1, 0,
             7, 2, 2, 1, 7, 3, 2, 8,
             4, 3, 3, 2, 0,
             5, 1, 2, 0, 2, 8,
             3, 2, 2, 3,
             4, 1, 1, 2, 8,
             1, 2,
             2, 1, 1,
             3, 2, 1, 0,
             5, 0, 1, 0, 0, 7])

    def test_errors_stand_alone(self):
        self.assertEqual(
            answers([1, 0, 2, 1, 2, 0, 7, 3, 0, 0, 4, 0, 1, 5, 0, 1, 0, 0, 6, 0, 0, 0, 0, 2]
                    + [2, 0, 2, 0, 7] * 80 + [2, 0, 2, 0, 7])[:12], [1, -1, 1, -2, 1, -2, 1, -2, 1, -1, 1, -3])
        self.assertEqual(
            answers([7, 1, 0, 0, 0, 2, 7, 0, 1, 0, 0, 2, 7, 0, 0, 0, 0, 2,
                     8, 1, 0, 0, 0, 0, 0, 0, 8, 0, 0, 0, 0, 1, 0, 0,
                     9, 1, 2, 10, 1, 2, 10, 0, 64, 11, 1, 12, 1]),
            [1, -2, 1, -1, 1, -3, 1, -2, 1, -1, 1, -2, 1, -2, 1, -1, 1, -2, 1, -2])
        self.assertEqual(answers([2, 0, 2, 0, 7] * 81)[-2:], [1, -5])

    def test_whole_numbers_in_a_list(self):
        given_back = answers([1, 2, 2, 0, 2, 0, 0, 2, 0, 2, 2, 0, 3, 0, 1, 4, 1, 0, 5, 0, 1, 1, 1, 6, 0, 1, 1, 1, 2,
                              7, 0, 1, 1, 1, 2, 8, 0, 0, 1, 1, 1, 1, 1, 9, 0, 2, 10, 0, 2, 11, 0, 12, 0])
        self.assertEqual({type(number) for number in given_back}, {int})
        self.assertIs(type(given_back), list)


class Handing(unittest.TestCase):
    def test_what_is_handed_in_stays_as_it_was(self):
        right = [1, 2, 2, 0, 2, 0, 7, 4, 0, 1, 5, 1, 1, 1, 1, 6, 1, 1, 1, 1, 2,
                 7, 1, 1, 1, 1, 2, 8, 1, 0, 1, 1, 1, 1, 1, 9, 1, 2, 10, 1, 2, 11, 1, 12, 1]
        for calls in (right, [1, 0], [2, 1, 64, 64, GREATEST]):
            before = list(calls)
            given_back = answers(calls)
            self.assertEqual(calls, before)
            given_back.append(0)
            given_back[0] = 99
            self.assertEqual(calls, before)

    def test_nothing_is_kept(self):
        calls = joined([begin(2)] + chain(1) + [sync(0, 1), tree_at(0, 62), begin(3), move(2, 5, 0, 9), tree_at(2, 1),
                        differences(2, 0, 1), history(2, 5), since(2, 5), surprises(2), known(2)])
        first = answers(calls)
        self.assertEqual(answers([5, 0, 1, GREATEST, GREATEST, 5, 1, 0, 1, 1, 3, 0, 0, 2, 0, 2, 0, 0]),
                         [1, -1, 1, -2, 1, -2, 3, 0, 1, 1])
        self.assertEqual(answers([12, 0, 12, 1, 9, 0, 5, 10, 0, 5, 11, 0]), [1, 0, 1, -2, 1, 0, 1, 0, 1, 0])
        self.assertEqual(answers(calls), first)

    def test_what_is_given_back_is_new_each_time(self):
        first = answers([1, 1])
        first.append(5)
        self.assertEqual(answers([1, 1]), [1, 0])


class Size(unittest.TestCase):
    def test_two_hundred_calls(self):
        calls = [begin(8)] + [move(number % 8, 2 + number % 62, 0, 1000000000) for number in range(80)]
        calls += [sync(replica, replica + 1) for replica in range(7)]
        calls += [deliver(number, 0) for number in range(8)]
        calls += [tree_at(7, 80 - number) for number in range(200 - len(calls))]
        asked = apart(answers(joined(calls)), 200)
        self.assertEqual(asked[96][0], 62)
        self.assertEqual(len(asked[96]), 1 + 3 * 62)

    def test_sixteen_hundred_numbers(self):
        calls = [differences(0, 0, 0, (GREATEST, GREATEST), (GREATEST, GREATEST))] * 200
        self.assertEqual(len(joined(calls)), 1600)
        self.assertEqual(answers(joined(calls)), [1, 0] * 200)

    def test_every_question_behind_eighty_moves(self):
        calls = chain() + [move(0, 63, 62 - number % 2, number) for number in range(18)]
        calls += [question for turn in range(30) for question in (
            differences(0, 80, 79 - turn), history(0, 63), since(0, 63 - turn), surprises(0))]
        asked = apart(answers(joined(calls)), 200)
        moves = listing((61, 62, 1063), *[(62 + number, 62 - number % 2, number) for number in range(18)])
        self.assertEqual(asked[80:84], [[1, 63], moves, [80], [0]])


if __name__ == "__main__":
    unittest.main()
