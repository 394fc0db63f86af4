import unittest

from daringdie.race import answers
from calls import DIE, GREATEST, SHOWS, ask, go


class GoTest(unittest.TestCase):
    def test_no_faces(self):
        self.assertEqual(ask(go(), (SHOWS,), go()), [[0, 0], [6, 10], [0, 0]])

    def test_without_a_one_all_are_added_up(self):
        self.assertEqual(ask(go(2), go(6), go(2, 6, 3), go(5, 5, 5, 5)), [[2, 1], [6, 1], [11, 3], [20, 4]])

    def test_a_one_ends_it(self):
        told = ask(go(1), go(1, 2, 3), go(2, 3, 1), go(2, 1, 3, 4), go(4, 4, 1, 1, 5), go(1, 1))
        self.assertEqual(told, [[0, 1], [0, 1], [0, 3], [0, 2], [0, 3], [0, 1]])

    def test_wrong_faces_are_refused(self):
        for wrong in (0, 7, GREATEST):
            for faces in ((wrong,), (wrong, 2), (2, wrong), (2, wrong, 3), (wrong, 1), (1, wrong), (2, 1, 3, wrong)):
                with self.subTest(faces=faces):
                    self.assertEqual(ask(go(*faces), (SHOWS,), go(2, 3)), [[-1], [6, 10], [5, 2]])

    def test_the_faces_are_those_of_the_die_told_last(self):
        for faces in range(2, 11):
            with self.subTest(faces=faces):
                told = ask((DIE, faces, 3), go(faces), go(faces, faces), go(faces + 1), go(1, faces + 1), go(0))
                self.assertEqual(told, [[0], [faces, 1], [2 * faces, 2], [-1], [-1], [-1]])
        told = ask((DIE, 10, 3), (DIE, 2, 3), go(3), (DIE, 10, 11), go(3), (DIE, 3, 3), go(3))
        self.assertEqual(told, [[0], [0], [-1], [-1], [-1], [0], [3, 1]])

    def test_there_is_no_bound_to_what_is_brought(self):
        self.assertEqual(ask((DIE, 2, 1), go(*[2] * 60)), [[0], [120, 60]])

    def test_very_many_faces(self):
        many = [2, 3, 4, 5, 6] * 5800
        self.assertEqual(len(many), 29000)
        self.assertEqual(ask(go(*many)), [[4 * 29000, 29000]])
        self.assertEqual(ask(go(*many[:-1], 1)), [[0, 29000]])
        self.assertEqual(ask(go(*many[:-1], 7), (SHOWS,)), [[-1], [6, 10]])
        self.assertEqual(ask(go(*[1] * 29000)), [[0, 1]])

    def test_the_count_stands_ahead_of_the_faces(self):
        self.assertEqual(answers([11, 0]), [2, 0, 0])
        calls = [11, 2, 3, 4, 1, 11, 1, 1, 11, 3, 2, 0, 2, 1]
        self.assertEqual(answers(calls), [2, 7, 2, 2, 6, 10, 2, 0, 1, 1, -1, 2, 6, 10])


if __name__ == "__main__":
    unittest.main()
