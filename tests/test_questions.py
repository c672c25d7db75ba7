"""Promises 8 and 9: value and cut."""

import unittest

from tests.helper import last, run

FAR = 1000000000
TOLD = (("tell", 7, 5, [3, 9]), ("commit", 10), ("tell", 7, 6, [5]), ("commit", 12), ("tell", 7, 0, [3, 4]))


class Value(unittest.TestCase):
    def test_what_was_known(self):
        for known, moment, answer in ((9, 3, [0]), (10, 2, [0]), (10, 3, [1, 5]), (11, 8, [1, 5]), (11, 9, [0]),
                                      (12, 4, [1, 5]), (12, 5, [1, 6]), (FAR, FAR, [1, 6]), (0, 3, [0])):
            self.assertEqual(last(*TOLD, ("value", 7, moment, known)), answer)

    def test_the_pending_story(self):
        self.assertEqual(run(*TOLD, ("value", 7, 3, -1), ("value", 7, 4, -1), ("value", 7, 2, -1))[-3:],
                         [[1, 0], [1, 5], [0]])

    def test_another_thing(self):
        self.assertEqual(last(*TOLD, ("value", 5, 5, -1)), [0])

    def test_nothing_told(self):
        self.assertEqual(run(("value", 0, 0, -1), ("value", 0, 0, 0), ("value", 0, 0, FAR)), [[0]] * 3)

    def test_changes_nothing(self):
        self.assertEqual(run(*TOLD, ("value", 7, 3, 10), ("value", 7, 3, -1), ("drop",))[-3:],
                         [[1, 5], [1, 0], [0, 3, 4]])


class Cut(unittest.TestCase):
    told = (("tell", 4, 1, [0, 6]), ("tell", -3, 9, [2]), ("tell", 10, -5, [4]), ("commit", 5), ("tell", 0, 0, [0]),
            ("deny", 10, [0]))

    def test_the_smaller_thing_first(self):
        self.assertEqual(last(*self.told, ("cut", 4, 5)), [3, -3, 9, 4, 1, 10, -5])

    def test_only_things_that_have_a_value_at_the_moment(self):
        self.assertEqual(run(*self.told, ("cut", 0, 5), ("cut", 3, 5), ("cut", 6, 6))[-3:],
                         [[1, 4, 1], [2, -3, 9, 4, 1], [2, -3, 9, 10, -5]])

    def test_before_the_first_commit(self):
        self.assertEqual(last(*self.told, ("cut", 4, 4)), [0])

    def test_the_pending_story(self):
        self.assertEqual(last(*self.told, ("cut", 4, -1)), [3, -3, 9, 0, 0, 4, 1])

    def test_nothing_told(self):
        self.assertEqual(run(("cut", 0, -1), ("cut", FAR, FAR)), [[0], [0]])

    def test_the_value_at_the_moment_of_a_thing_with_several(self):
        calls = (("tell", 1, 9, [0, 5]), ("tell", 1, 2, [5, 8]), ("tell", 1, 7, [8]))
        self.assertEqual(run(*calls, ("cut", 4, -1), ("cut", 5, -1), ("cut", 8, -1))[-3:],
                         [[1, 1, 9], [1, 1, 2], [1, 1, 7]])

    def test_sixty_four_things(self):
        calls = [("tell", thing, -thing, [0]) for thing in range(64, 0, -1)]
        answer = [64]
        for thing in range(1, 65):
            answer += [thing, -thing]
        self.assertEqual(last(*calls, ("cut", 0, -1)), answer)


if __name__ == "__main__":
    unittest.main()
