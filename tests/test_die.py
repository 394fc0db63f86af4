import unittest

from daringdie.race import answers
from calls import BRINGS, DIE, GREATEST, SHOWS, ask


class DieTest(unittest.TestCase):
    def test_begins_with_six_faces_and_ten_points(self):
        self.assertEqual(ask((SHOWS,)), [[6, 10]])

    def test_takes_all_that_is_in_range(self):
        for faces in range(2, 11):
            for goal in range(1, 11):
                self.assertEqual(ask((DIE, faces, goal), (SHOWS,)), [[0], [faces, goal]])

    def test_refuses_wrong_faces_and_goals(self):
        wrong_faces = [(faces, 5) for faces in (0, 1, 11, GREATEST)]
        wrong_goals = [(5, goal) for goal in (0, 11, GREATEST)]
        both_wrong = [(faces, goal) for faces in (0, 1, 11, GREATEST) for goal in (0, 11, GREATEST)]
        for faces, goal in wrong_faces + wrong_goals + both_wrong:
            with self.subTest(faces=faces, goal=goal):
                self.assertEqual(ask((DIE, faces, goal), (SHOWS,)), [[-1], [6, 10]])
                self.assertEqual(ask((DIE, 3, 4), (DIE, faces, goal), (SHOWS,)), [[0], [-1], [3, 4]])

    def test_a_refused_die_is_not_thrown(self):
        self.assertEqual(ask((DIE, 3, 4), (DIE, 10, 11), (BRINGS, 1)), [[0], [-1], [0, 5, 3]])

    def test_the_last_die_taken_counts(self):
        self.assertEqual(ask((DIE, 2, 1), (DIE, 10, 9), (SHOWS,), (BRINGS, 1)), [[0], [0], [10, 9], [0, 27, 5]])

    def test_each_line_begins_anew(self):
        answers([DIE, 2, 1])
        self.assertEqual(answers([SHOWS, BRINGS, 1]), [2, 6, 10, 3, 0, 10, 3])


if __name__ == "__main__":
    unittest.main()
