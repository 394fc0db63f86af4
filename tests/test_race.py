import unittest

from calls import ANSWER, DIE, DUEL, GREATEST, QUICK, SHOWS, TURNS, ask, ask_in_race
from chances import duel_chances, pair, turn_averages

DICE = (2, 3, 6, 10)
GOALS = (1, 2, 5, 10)
WRONG_HOLDS = (0, 101, GREATEST)


class RefusalTest(unittest.TestCase):
    def check(self, goal, call, refusal):
        """The refusal is alone, and the calls behind it are answered as without it."""
        with self.subTest(goal=goal, call=call):
            die = (DIE, 3, goal)
            behind = [(SHOWS,), (TURNS, 2, 0), (DUEL, 2, 0, 3, 0)]
            self.assertEqual(ask(die, call, *behind), [[0], [refusal]] + ask(die, *behind)[1:])

    def check_answered(self, goal, call):
        with self.subTest(goal=goal, call=call):
            told = ask((DIE, 3, goal), call)[1]
            self.assertEqual(len(told), 3)
            self.assertGreaterEqual(min(told), 0)

    def test_holds_at_the_edges_are_answered(self):
        for goal in (1, 4, 10):
            for hold in (1, 100):
                self.check_answered(goal, (TURNS, hold, 0))
                self.check_answered(goal, (ANSWER, 0, hold, 0))
                for other_hold in (1, 100):
                    self.check_answered(goal, (DUEL, hold, 0, other_hold, 0))

    def test_wrong_holds(self):
        for goal in (1, 4, 10):
            for wrong in WRONG_HOLDS:
                for points in (0, goal - 1, goal, goal + 1, GREATEST):
                    self.check(goal, (TURNS, wrong, points), -1)
                    self.check(goal, (DUEL, wrong, points, 1, 0), -1)
                    self.check(goal, (DUEL, wrong, 0, 100, points), -1)
                    self.check(goal, (DUEL, 1, points, wrong, 0), -1)
                    self.check(goal, (DUEL, 100, 0, wrong, points), -1)
                    self.check(goal, (DUEL, wrong, points, wrong, points), -1)
                    self.check(goal, (ANSWER, points, wrong, 0), -1)
                    self.check(goal, (ANSWER, 0, wrong, points), -1)
                    self.check(goal, (ANSWER, points, wrong, points), -1)

    def test_points_just_below_the_goal_are_answered(self):
        for goal in (1, 4, 10):
            for hold in (1, 100):
                self.check_answered(goal, (TURNS, hold, goal - 1))
                self.check_answered(goal, (QUICK, goal - 1))
                for x, y in ((goal - 1, 0), (0, goal - 1), (goal - 1, goal - 1)):
                    self.check_answered(goal, (DUEL, hold, x, 101 - hold, y))
                    self.check_answered(goal, (ANSWER, x, hold, y))

    def test_points_at_the_goal_and_above(self):
        for goal in (1, 4, 10):
            for there in (goal, goal + 1, GREATEST):
                for hold in (1, 100):
                    self.check(goal, (TURNS, hold, there), -3)
                    for x, y in ((there, 0), (0, there), (there, goal - 1), (goal - 1, there), (there, there)):
                        self.check(goal, (DUEL, hold, x, 101 - hold, y), -3)
                        self.check(goal, (ANSWER, x, hold, y), -3)
                self.check(goal, (QUICK, there), -3)

    def test_a_line_begins_with_ten_points_as_the_goal(self):
        self.assertEqual(ask((TURNS, 1, 10), (QUICK, 10), (TURNS, 1, 9)), [[-3], [-3], [0, 6, 5]])
        self.assertEqual(ask((DUEL, 1, 9, 1, 10), (DUEL, 1, 9, 1, 9)), [[-3], [0, 6, 7]])

    def test_the_goal_is_the_one_told_last(self):
        told = ask((DIE, 6, 3), (TURNS, 1, 3), (DIE, 6, 11), (TURNS, 1, 3), (DIE, 6, 4), (TURNS, 1, 3))
        self.assertEqual(told, [[0], [-3], [-1], [-3], [0], [0, 6, 5]])


class HandWorkedTest(unittest.TestCase):
    def check(self, faces, goal, rows):
        told = ask_in_race(faces, goal, *[call for call, answer in rows])
        for (call, answer), found in zip(rows, told, strict=True):
            with self.subTest(faces=faces, goal=goal, call=call):
                self.assertEqual(found, answer)

    def test_one_throw_that_is_no_one_is_enough(self):
        for faces in DICE:
            for goal in (1, 2):
                for x in range(goal):
                    rows = [((TURNS, hold, x), [0, faces, faces - 1]) for hold in (1, 2, 3, 100)]
                    rows.append(((QUICK, x), [1, faces, faces - 1]))
                    for y in range(goal):
                        rows += [((DUEL, hold, x, 101 - hold, y), [0, faces, faces + 1]) for hold in (1, 2, 99, 100)]
                        rows += [((ANSWER, x, hold, y), [1, faces, faces + 1]) for hold in (1, 2, 100)]
                    self.check(faces, goal, rows)

    def test_turns_with_two_faces(self):
        # Two turns for each 2, four for each 4, eight for each 6.
        self.check(2, 5, [((TURNS, hold, 0), [0, 6, 1]) for hold in range(1, 5)])
        self.check(2, 5, [((TURNS, 5, 0), [0, 8, 1]), ((TURNS, 100, 0), [0, 8, 1]), ((QUICK, 0), [1, 6, 1])])
        self.check(2, 5, [((TURNS, hold, 1), [0, 4, 1]) for hold in (1, 2, 3, 4, 5, 100)])
        self.check(2, 5, [((TURNS, hold, 3), [0, 2, 1]) for hold in (1, 2, 3, 4, 5, 100)])
        self.check(2, 10, [((TURNS, 1, 0), [0, 10, 1]), ((TURNS, 3, 0), [0, 10, 1]), ((TURNS, 5, 0), [0, 12, 1])])
        self.check(2, 10, [((TURNS, 10, 0), [0, 32, 1]), ((TURNS, 100, 0), [0, 32, 1]), ((QUICK, 0), [1, 10, 1])])

    def test_turns_with_three_faces(self):
        self.check(3, 5, [((TURNS, 1, 4), [0, 3, 2]), ((TURNS, 1, 3), [0, 3, 2]), ((TURNS, 1, 2), [0, 9, 4])])
        self.check(3, 5, [((TURNS, 1, 1), [0, 3, 1]), ((TURNS, 1, 0), [0, 27, 8]), ((TURNS, 2, 0), [0, 27, 8])])
        self.check(3, 5, [((TURNS, 3, 0), [0, 3, 1]), ((TURNS, 4, 0), [0, 21, 8]), ((TURNS, 5, 0), [0, 27, 11])])
        self.check(3, 5, [((TURNS, 100, 0), [0, 27, 11]), ((QUICK, 0), [5, 27, 11]), ((QUICK, 4), [1, 3, 2])])
        # With 3 missing: 9/4 held at 1 or 2, 9/5 held at 3.
        self.check(3, 5, [((TURNS, 3, 2), [0, 9, 5]), ((QUICK, 2), [3, 9, 5])])

    def test_turns_with_six_faces(self):
        self.check(6, 5, [((TURNS, 1, 4), [0, 6, 5]), ((TURNS, 1, 3), [0, 6, 5]), ((TURNS, 1, 2), [0, 36, 25])])
        self.check(6, 5, [((TURNS, 1, 1), [0, 42, 25]), ((TURNS, 1, 0), [0, 246, 125]), ((TURNS, 3, 2), [0, 36, 29])])
        self.check(6, 5, [((QUICK, 2), [3, 36, 29]), ((QUICK, 3), [1, 6, 5])])

    def test_turns_with_ten_faces(self):
        self.check(10, 5, [((TURNS, 1, 3), [0, 10, 9]), ((TURNS, 1, 2), [0, 100, 81]), ((TURNS, 3, 2), [0, 100, 89])])
        self.check(10, 5, [((QUICK, 2), [3, 100, 89])])

    def test_duels_with_two_faces(self):
        self.check(2, 5, [((DUEL, 1, 2, 1, 4), [0, 2, 9]), ((DUEL, 3, 2, 1, 4), [0, 2, 5])])
        self.check(2, 5, [((DUEL, 100, 2, 1, 4), [0, 2, 5]), ((ANSWER, 2, 1, 4), [3, 2, 5])])
        # The same two, but the one with 4 points is at turn: won at once by a half, else it's as above.
        self.check(2, 5, [((DUEL, 1, 4, 1, 2), [0, 8, 9]), ((DUEL, 1, 4, 3, 2), [0, 4, 5])])
        self.check(2, 5, [((ANSWER, 4, 1, 2), [1, 8, 9]), ((ANSWER, 4, 3, 2), [1, 4, 5])])

    def test_duels_with_six_faces(self):
        self.check(6, 5, [((DUEL, 1, 2, 1, 4), [0, 174, 245]), ((DUEL, 3, 2, 1, 4), [0, 174, 209])])
        self.check(6, 5, [((ANSWER, 2, 1, 4), [3, 174, 209]), ((ANSWER, 2, 100, 4), [3, 174, 209])])
        self.check(6, 10, [((DUEL, 1, 7, 1, 9), [0, 174, 245]), ((ANSWER, 7, 1, 9), [3, 174, 209])])

    def test_duels_with_three_and_ten_faces(self):
        # Three missing to the one at turn, who holds at 3, one to the other.
        self.check(3, 5, [((DUEL, 3, 2, 1, 4), [0, 15, 23]), ((ANSWER, 2, 1, 4), [3, 15, 23])])
        self.check(10, 5, [((DUEL, 3, 2, 1, 4), [0, 890, 989]), ((ANSWER, 2, 1, 4), [3, 890, 989])])


class SecondWayTest(unittest.TestCase):
    def check(self, faces, goal, calls, answers):
        told = ask_in_race(faces, goal, *calls)
        self.assertEqual(len(told), len(answers))
        for call, answer, found in zip(calls, answers, told):
            if answer != found:
                self.fail(f"{faces} faces, goal {goal}, call {call}: {found} and not {answer}")

    def holds(self, goal):
        return list(range(1, goal + 1)) + [goal + 1, 100]

    def test_turns(self):
        for faces in range(2, 11):
            for goal in range(1, 11):
                for hold in self.holds(goal):
                    averages = turn_averages(faces, goal, hold)
                    calls = [(TURNS, hold, x) for x in range(goal)]
                    self.check(faces, goal, calls, [[0] + pair(average) for average in averages])

    def test_quick(self):
        for faces in range(2, 11):
            for goal in range(1, 11):
                answers = []
                for x in range(goal):
                    averages = [turn_averages(faces, goal, hold)[x] for hold in range(1, goal + 1)]
                    answers.append([averages.index(min(averages)) + 1] + pair(min(averages)))
                self.check(faces, goal, [(QUICK, x) for x in range(goal)], answers)

    def test_duel(self):
        for faces in DICE:
            for goal in GOALS:
                for hold in self.holds(goal):
                    for other_hold in self.holds(goal):
                        chances = duel_chances(faces, goal, hold, other_hold)
                        calls = [(DUEL, hold, x, other_hold, y) for x, y in chances]
                        self.check(faces, goal, calls, [[0] + pair(chance) for chance in chances.values()])

    def test_answer(self):
        for faces in DICE:
            for goal in GOALS:
                for other_hold in self.holds(goal):
                    calls, answers = [], []
                    for x in range(goal):
                        for y in range(goal):
                            own_holds = range(1, goal + 1)
                            chances = [duel_chances(faces, goal, hold, other_hold)[x, y] for hold in own_holds]
                            calls.append((ANSWER, x, other_hold, y))
                            answers.append([chances.index(max(chances)) + 1] + pair(max(chances)))
                    self.check(faces, goal, calls, answers)


if __name__ == "__main__":
    unittest.main()
