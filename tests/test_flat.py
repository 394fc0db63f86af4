import unittest

from daringdie.race import answers
from calls import BEST, BRINGS, DIE, ENDS, GREATEST, NOTHING, SHOWS, flat, split


class FlatTest(unittest.TestCase):
    def test_the_count_stands_before_each_answer(self):
        self.assertEqual(answers([SHOWS]), [2, 6, 10])
        self.assertEqual(answers([DIE, 3, 4]), [1, 0])
        self.assertEqual(answers([BRINGS, 1]), [3, 0, 10, 3])
        self.assertEqual(answers([NOTHING, 1]), [3, 0, 1, 6])
        self.assertEqual(answers([BEST, 1]), [3, 1, 10, 3])
        self.assertEqual(answers([ENDS, 1]), [16, 5, 2, 1, 6, 3, 1, 6, 4, 1, 6, 5, 1, 6, 6, 1, 6])
        self.assertEqual(answers([DIE, 2, 1, ENDS, 1]), [1, 0, 4, 1, 2, 1, 2])

    def test_a_refusal_among_other_calls(self):
        calls = [DIE, 2, 3, BRINGS, 0, BRINGS, 3, DIE, 1, 1, ENDS, GREATEST, NOTHING, 3, BEST, 101, SHOWS]
        told = [1, 0, 1, -1, 3, 0, 1, 1, 1, -1, 1, -1, 3, 0, 3, 4, 1, -1, 2, 2, 3]
        self.assertEqual(answers(calls), told)

    def test_a_line_of_forty_calls(self):
        eight = [(SHOWS,), (BRINGS, 1), (NOTHING, 1), (ENDS, 1), (BEST, 2), (DIE, 2, 7), (BEST, 0), (DIE, 6, 10)]
        told = [[6, 10], [0, 10, 3], [0, 1, 6], [5] + [n for k in range(2, 7) for n in (k, 1, 6)], [1, 10, 3]]
        told += [[0], [-1], [0]]
        # A line has at most five calls of best, refused ones too.
        others = [row for row in zip(eight, told) if row[0][0] != BEST]
        line = list(zip(eight, told)) * 2 + others * 4
        self.assertEqual(len(line), 40)
        self.assertEqual(split(answers(flat([row[0] for row in line]))), [row[1] for row in line])

    def test_what_is_handed_in_stays_as_it_is(self):
        calls = [DIE, 3, 4, DIE, 1, 1, SHOWS, BRINGS, 7, NOTHING, 0, ENDS, 9, BEST, 12, BEST, GREATEST]
        before = list(calls)
        answers(calls)
        self.assertEqual(calls, before)

    def test_the_same_line_is_answered_the_same_again(self):
        calls = [BRINGS, 7, DIE, 3, 4, BRINGS, 7, ENDS, 9, BEST, 12, SHOWS]
        first = answers(calls)
        kept = list(first)
        first.append(0)
        self.assertEqual(answers(calls), kept)

    def test_a_list_of_whole_numbers_is_given_back(self):
        told = answers([DIE, 3, 4, DIE, 1, 1, SHOWS, BRINGS, 7, NOTHING, 7, ENDS, 9, BEST, 12, BEST, 0])
        self.assertIs(type(told), list)
        self.assertEqual({type(number) for number in told}, {int})


if __name__ == "__main__":
    unittest.main()
