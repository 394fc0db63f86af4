import unittest

from daringdie.turn import lowest
from calls import BEST, BRINGS, ENDS, GREATEST, NOTHING, SHOWS, THROWS, ask, ask_with
from chances import pair, turn


def average(chances):
    return sum(total * chance for total, chance in chances.items())


class LowestTest(unittest.TestCase):
    def test_lowest_terms(self):
        self.assertEqual(lowest(20, 6), [10, 3])
        self.assertEqual(lowest(6, 20), [3, 10])
        self.assertEqual(lowest(12, 4), [3, 1])
        self.assertEqual(lowest(5, 7), [5, 7])

    def test_zero_is_zero_and_one(self):
        self.assertEqual(lowest(0, 1), [0, 1])
        self.assertEqual(lowest(0, 36), [0, 1])


class HoldRangeTest(unittest.TestCase):
    def test_wrong_numbers_are_refused(self):
        for call in (BRINGS, NOTHING, ENDS, BEST, THROWS):
            for number in (0, 101, GREATEST):
                with self.subTest(call=call, number=number):
                    self.assertEqual(ask((call, number), (SHOWS,)), [[-1], [6, 10]])

    def test_edges_are_answered(self):
        for call in (BRINGS, NOTHING, ENDS, BEST, THROWS):
            for number in (1, 100):
                with self.subTest(call=call, number=number):
                    self.assertGreater(len(ask((call, number))[0]), 2)


class HandWorkedTest(unittest.TestCase):
    def check(self, faces, hold, brings, nothing, ends):
        told = ask_with(faces, (BRINGS, hold), (NOTHING, hold), (ENDS, hold))
        self.assertEqual(told[0], [0] + brings)
        self.assertEqual(told[1], [0] + nothing)
        self.assertEqual(told[2], [len(ends)] + [number for end in ends for number in end])

    def test_two_faces_bring_a_single_number(self):
        self.check(2, 1, [1, 1], [1, 2], [(2, 1, 2)])
        self.check(2, 2, [1, 1], [1, 2], [(2, 1, 2)])
        self.check(2, 3, [1, 1], [3, 4], [(4, 1, 4)])
        self.check(2, 5, [3, 4], [7, 8], [(6, 1, 8)])
        self.check(2, 100, [25, 2 ** 48], [2 ** 50 - 1, 2 ** 50], [(100, 1, 2 ** 50)])

    def test_three_faces(self):
        self.check(3, 1, [5, 3], [1, 3], [(2, 1, 3), (3, 1, 3)])
        self.check(3, 2, [5, 3], [1, 3], [(2, 1, 3), (3, 1, 3)])
        self.check(3, 3, [2, 1], [4, 9], [(3, 1, 3), (4, 1, 9), (5, 1, 9)])
        self.check(3, 4, [20, 9], [5, 9], [(4, 1, 9), (5, 2, 9), (6, 1, 9)])
        self.check(3, 5, [61, 27], [16, 27], [(5, 2, 9), (6, 4, 27), (7, 1, 27)])
        self.check(3, 6, [61, 27], [2, 3], [(6, 4, 27), (7, 1, 9), (8, 2, 27)])

    def test_six_faces(self):
        once = [(total, 1, 6) for total in range(2, 7)]
        self.check(6, 1, [10, 3], [1, 6], once)
        self.check(6, 2, [10, 3], [1, 6], once)
        twice = [(3, 1, 6), (4, 7, 36), (5, 7, 36), (6, 7, 36), (7, 1, 36), (8, 1, 36)]
        self.check(6, 3, [23, 6], [7, 36], twice)

    def test_ten_faces(self):
        once = [(total, 1, 10) for total in range(2, 11)]
        self.check(10, 1, [27, 5], [1, 10], once)
        twice = [(3, 1, 10)] + [(total, 11, 100) for total in range(4, 11)] + [(11, 1, 100), (12, 1, 100)]
        self.check(10, 3, [148, 25], [11, 100], twice)


class ThrowsTest(unittest.TestCase):
    def check(self, faces, *throws):
        """With h of 1, 2 and so on."""
        told = ask_with(faces, *[(THROWS, hold + 1) for hold in range(len(throws))])
        self.assertEqual(told, [[0] + average for average in throws])

    def test_two_faces(self):
        self.check(2, [1, 1], [1, 1], [3, 2], [3, 2], [7, 4], [7, 4], [15, 8])
        self.assertEqual(ask_with(2, (THROWS, 100)), [[0, 2 ** 50 - 1, 2 ** 49]])

    def test_three_faces(self):
        self.check(3, [1, 1], [1, 1], [4, 3], [5, 3], [16, 9], [2, 1])

    def test_six_faces(self):
        self.check(6, [1, 1], [1, 1], [7, 6], [4, 3], [55, 36])

    def test_ten_faces(self):
        self.check(10, [1, 1], [1, 1], [11, 10], [6, 5], [131, 100])

    def test_a_line_begins_with_six_faces(self):
        self.assertEqual(ask((THROWS, 3)), [[0, 7, 6]])


class EveryTurnTest(unittest.TestCase):
    def test_brings_nothing_ends_and_throws(self):
        for faces in range(2, 11):
            for hold in range(1, 101):
                with self.subTest(faces=faces, hold=hold):
                    chances, throws = turn(faces, hold)
                    told = ask_with(faces, (BRINGS, hold), (NOTHING, hold), (ENDS, hold), (THROWS, hold))
                    self.assertEqual(told[0], [0] + pair(average(chances)))
                    self.assertEqual(told[1], [0] + pair(chances[0]))
                    ends = [len(chances) - 1]
                    for total in sorted(chances)[1:]:
                        ends += [total] + pair(chances[total])
                    self.assertEqual(told[2], ends)
                    self.assertEqual(told[3], [0] + pair(throws))

    def test_best(self):
        for faces in range(2, 11):
            averages = [average(turn(faces, hold)[0]) for hold in range(1, 101)]
            for most in range(1, 101):
                with self.subTest(faces=faces, most=most):
                    highest = max(averages[:most])
                    hold = averages.index(highest) + 1
                    self.assertEqual(ask_with(faces, (BEST, most)), [[hold] + pair(highest)])


class BestTest(unittest.TestCase):
    def test_six_faces_stop_at_twenty(self):
        twenty = [20, 492303203, 60466176]
        self.assertEqual(ask((BEST, 20), (BEST, 21), (BEST, 100)), [twenty, twenty, twenty])
        self.assertEqual(ask((BRINGS, 20), (BRINGS, 21)), [[0] + twenty[1:], [0] + twenty[1:]])
        self.assertEqual(ask((BEST, 19))[0][0], 19)

    def test_small_numbers_to_choose_from(self):
        self.assertEqual(ask((BEST, 1), (BEST, 2), (BEST, 3)), [[1, 10, 3], [1, 10, 3], [3, 23, 6]])

    def test_three_faces_stop_at_five(self):
        told = ask_with(3, (BEST, 3), (BEST, 4), (BEST, 5), (BEST, 6), (BEST, 100))
        self.assertEqual(told, [[3, 2, 1], [4, 20, 9], [5, 61, 27], [5, 61, 27], [5, 61, 27]])

    def test_of_as_good_ones_the_least(self):
        self.assertEqual(ask_with(2, (BEST, 1), (BEST, 4), (BEST, 100)), [[1, 1, 1], [1, 1, 1], [1, 1, 1]])

    def test_the_sum_of_all_faces_but_the_one(self):
        for faces in range(3, 11):
            self.assertEqual(ask_with(faces, (BEST, 100))[0][0], sum(range(2, faces + 1)))


if __name__ == "__main__":
    unittest.main()
