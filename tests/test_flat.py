import unittest

from daringdie.race import answers
from calls import ANSWER, BEST, BRINGS, DIE, DUEL, ENDS, GO, GREATEST, NOTHING, QUICK, SHOWS, THROWS, TURNS
from calls import ask, flat, go, split

# Forty calls, all twelve among them: five of best, and five of turns, quick, duel and answer together.
FORTY = (
    ((SHOWS,), [6, 10]),
    ((THROWS, 3), [0, 7, 6]),
    ((TURNS, 1, 9), [0, 6, 5]),
    (go(), [0, 0]),
    (go(6, 2, 1, 4), [0, 3]),
    (go(6, 2, 5), [13, 3]),
    ((BRINGS, 1), [0, 10, 3]),
    ((NOTHING, 1), [0, 1, 6]),
    ((BEST, 3), [3, 23, 6]),
    ((ENDS, 1), [5, 2, 1, 6, 3, 1, 6, 4, 1, 6, 5, 1, 6, 6, 1, 6]),
    ((DIE, 2, 5), [0]),
    ((SHOWS,), [2, 5]),
    ((QUICK, 0), [1, 6, 1]),
    ((DUEL, 3, 2, 1, 4), [0, 2, 5]),
    ((ANSWER, 2, 1, 4), [3, 2, 5]),
    ((THROWS, 5), [0, 7, 4]),
    ((THROWS, 101), [-1]),
    (go(2, 2, 3), [-1]),
    (go(2, 2, 2), [6, 3]),
    ((BRINGS, 5), [0, 3, 4]),
    ((NOTHING, 5), [0, 7, 8]),
    ((ENDS, 5), [1, 6, 1, 8]),
    ((ENDS, 0), [-1]),
    ((BEST, 4), [1, 1, 1]),
    ((BEST, 0), [-1]),
    ((DIE, 11, 5), [-1]),
    ((DUEL, 3, 5, 1, 4), [-3]),
    ((SHOWS,), [2, 5]),
    ((DIE, 3, 4), [0]),
    ((SHOWS,), [3, 4]),
    ((BRINGS, 4), [0, 20, 9]),
    ((NOTHING, 4), [0, 5, 9]),
    ((ENDS, 4), [3, 4, 1, 9, 5, 2, 9, 6, 1, 9]),
    ((BEST, 100), [5, 61, 27]),
    ((BEST, 4), [4, 20, 9]),
    ((THROWS, 4), [0, 5, 3]),
    (go(3, 3, 4), [-1]),
    (go(3, 3, 1), [0, 3]),
    (go(3, 3), [6, 2]),
    ((BRINGS, 101), [-1]),
)


class FlatTest(unittest.TestCase):
    def test_the_count_stands_before_each_answer(self):
        self.assertEqual(answers([SHOWS]), [2, 6, 10])
        self.assertEqual(answers([DIE, 3, 4]), [1, 0])
        self.assertEqual(answers([BRINGS, 1]), [3, 0, 10, 3])
        self.assertEqual(answers([NOTHING, 1]), [3, 0, 1, 6])
        self.assertEqual(answers([BEST, 1]), [3, 1, 10, 3])
        self.assertEqual(answers([ENDS, 1]), [16, 5, 2, 1, 6, 3, 1, 6, 4, 1, 6, 5, 1, 6, 6, 1, 6])
        self.assertEqual(answers([DIE, 2, 1, ENDS, 1]), [1, 0, 4, 1, 2, 1, 2])
        self.assertEqual(answers([THROWS, 3]), [3, 0, 7, 6])
        self.assertEqual(answers([TURNS, 1, 9]), [3, 0, 6, 5])
        self.assertEqual(answers([QUICK, 9]), [3, 1, 6, 5])
        self.assertEqual(answers([DUEL, 1, 7, 1, 9]), [3, 0, 174, 245])
        self.assertEqual(answers([ANSWER, 7, 1, 9]), [3, 3, 174, 209])
        self.assertEqual(answers([GO, 2, 3, 4]), [2, 7, 2])

    def test_a_refusal_among_other_calls(self):
        calls = [DIE, 2, 3, BRINGS, 0, BRINGS, 3, DIE, 1, 1, ENDS, GREATEST, NOTHING, 3, BEST, 101, SHOWS]
        told = [1, 0, 1, -1, 3, 0, 1, 1, 1, -1, 1, -1, 3, 0, 3, 4, 1, -1, 2, 2, 3]
        self.assertEqual(answers(calls), told)

    def test_a_line_of_forty_calls(self):
        self.assertEqual(len(FORTY), 40)
        self.assertEqual({call[0] for call, answer in FORTY}, set(range(12)))
        self.assertEqual(ask(*[call for call, answer in FORTY]), [answer for call, answer in FORTY])

    def test_the_same_line_without_what_is_refused(self):
        taken = [row for row in FORTY if row[1][0] >= 0]
        self.assertEqual(len(taken), 32)
        self.assertEqual(ask(*[call for call, answer in taken]), [answer for call, answer in taken])

    def test_what_is_handed_in_stays_as_it_is(self):
        calls = flat([call for call, answer in FORTY])
        before = list(calls)
        answers(calls)
        self.assertEqual(calls, before)

    def test_every_run_begins_anew(self):
        calls = flat([call for call, answer in FORTY])
        first = answers(calls)
        self.assertEqual(answers([SHOWS, BRINGS, 1, TURNS, 1, 9]), [2, 6, 10, 3, 0, 10, 3, 3, 0, 6, 5])
        kept = list(first)
        first.append(0)
        self.assertEqual(answers(calls), kept)

    def test_a_list_of_whole_numbers_is_given_back(self):
        told = answers(flat([call for call, answer in FORTY]))
        self.assertIs(type(told), list)
        self.assertEqual({type(number) for number in told}, {int})


if __name__ == "__main__":
    unittest.main()
