"""Promises 12 and 13: behind and mistaken."""

import unittest

from tests.helper import last, run

FAR = 1000000000
TOLD = (("tell", 7, 5, [3, 9]), ("commit", 10), ("tell", 7, 6, [5]), ("commit", 12))
BY_NOW = [2, 3, 5, 5, 5, -1, 6]
# Everything was told of each moment of the first commit, and another value by the second.
FLAT = (("tell", 1, 5, [0]), ("commit", 3), ("tell", 1, 6, [0]), ("commit", 5))


def behind(calls, thing, delay):
    return last(*calls, ("behind", thing, delay))


def mistaken(calls, thing, delay):
    return last(*calls, ("mistaken", thing, delay))


class Behind(unittest.TestCase):
    def test_at_the_moment_itself(self):
        self.assertEqual(behind(TOLD, 7, 0), [1, 12, -1, 6])

    def test_some_moments_later(self):
        for delay, answer in ((1, [1, 11, -1, 6]), (2, [2, 8, 9, 5, 10, -1, 6]), (3, [2, 7, 9, 5, 9, -1, 6]),
                              (5, [2, 5, 7, 5, 7, -1, 6]), (6, [2, 4, 6, 5, 6, -1, 6]), (7, BY_NOW)):
            self.assertEqual(behind(TOLD, 7, delay), answer)

    def test_a_value_that_goes_on_from_one_version_to_the_next_is_one_entry(self):
        self.assertEqual(behind(TOLD, 7, 8), BY_NOW)
        calls = (("tell", 1, 5, [0]), ("commit", 4), ("tell", 2, 5, [0]), ("commit", 6), ("deny", 1, [20]),
                 ("commit", 8))
        self.assertEqual(behind(calls, 1, 0), [1, 4, 20, 5])

    def test_commits_moments_that_are_less_than_the_delay_or_equal_to_it(self):
        for delay in (9, 10, 11, 12, 13, 1000, FAR):
            self.assertEqual(behind(TOLD, 7, delay), BY_NOW)

    def test_from_the_moment_0_on(self):
        for delay, answer in ((0, [2, 3, 5, 5, 5, -1, 6]), (1, [2, 2, 4, 5, 4, -1, 6]), (2, [2, 1, 3, 5, 3, -1, 6]),
                              (3, [2, 0, 2, 5, 2, -1, 6]), (4, [2, 0, 1, 5, 1, -1, 6]), (5, [1, 0, -1, 6]),
                              (6, [1, 0, -1, 6]), (FAR, [1, 0, -1, 6])):
            self.assertEqual(behind(FLAT, 1, delay), answer)

    def test_one_commit(self):
        calls = (("tell", 1, 5, [0]), ("commit", 3))
        for delay, first in ((0, 3), (2, 1), (3, 0), (4, 0), (FAR, 0)):
            self.assertEqual(behind(calls, 1, delay), [1, first, -1, 5])

    def test_a_commit_at_the_last_moment(self):
        calls = (("tell", 1, 5, [0]), ("commit", FAR))
        for delay, first in ((0, FAR), (1, FAR - 1), (FAR - 1, 1), (FAR, 0)):
            self.assertEqual(behind(calls, 1, delay), [1, first, -1, 5])

    def test_entries_between_two_commits(self):
        calls = (("tell", 1, 5, [12, 14, 16, 18]), ("tell", 1, 6, [14, 15]), ("commit", 10), ("deny", 1, [0]),
                 ("commit", 20))
        self.assertEqual(behind(calls, 1, 0), [3, 12, 14, 5, 14, 15, 6, 16, 18, 5])
        self.assertEqual(behind(calls, 1, 3), [3, 12, 14, 5, 14, 15, 6, 16, 17, 5])
        self.assertEqual(behind(calls, 1, 7), [1, 12, 13, 5])
        self.assertEqual(behind(calls, 1, 8), [0])

    def test_what_was_told_ahead(self):
        calls = (("tell", 1, 5, [100, 200]), ("commit", 10), ("tell", 1, 6, [150, 160]), ("commit", 155))
        self.assertEqual(behind(calls, 1, 0), [3, 100, 155, 5, 155, 160, 6, 160, 200, 5])

    def test_another_thing(self):
        self.assertEqual(behind(TOLD, 8, 0), [0])

    def test_the_pending_story_is_not_known(self):
        self.assertEqual(behind(TOLD + (("deny", 7, [0]),), 7, 0), [1, 12, -1, 6])

    def test_no_versions(self):
        self.assertEqual(run(("tell", 1, 5, [0]), ("behind", 1, 0), ("behind", 1, 7), ("behind", 1, FAR))[1:],
                         [[0]] * 3)


class Mistaken(unittest.TestCase):
    def test_at_the_moment_itself(self):
        self.assertEqual(mistaken(TOLD, 7, 0), [2, 3, 12])

    def test_some_moments_later(self):
        for delay, answer in ((1, [2, 3, 11]), (2, [2, 3, 10]), (5, [2, 3, 7]), (6, [4, 3, 4, 5, 6]), (7, [0])):
            self.assertEqual(mistaken(TOLD, 7, delay), answer)

    def test_commits_moments_that_are_less_than_the_delay_or_equal_to_it(self):
        for delay in (9, 10, 11, 12, 13, 1000, FAR):
            self.assertEqual(mistaken(TOLD, 7, delay), [0])

    def test_another_value_and_none(self):
        for delay, answer in ((0, [2, 0, 5]), (2, [2, 0, 3]), (4, [2, 0, 1]), (5, [0]), (6, [0]), (FAR, [0])):
            self.assertEqual(mistaken(FLAT, 1, delay), answer)

    def test_a_value_where_none_is_known_by_now(self):
        calls = (("tell", 1, 5, [0]), ("commit", 3), ("deny", 1, [0, 20]), ("commit", 10))
        self.assertEqual(mistaken(calls, 1, 0), [2, 3, 10])
        self.assertEqual(mistaken(calls, 1, 4), [2, 0, 6])

    def test_the_same_again(self):
        calls = (("tell", 1, 5, [0]), ("commit", 0), ("tell", 1, 6, [0]), ("commit", 4), ("tell", 1, 5, [0]),
                 ("commit", 7))
        self.assertEqual(mistaken(calls, 1, 0), [2, 4, 7])
        self.assertEqual(mistaken(calls, 1, 5), [2, 0, 2])

    def test_bounds_between_two_commits(self):
        calls = (("tell", 1, 5, [12, 14, 16, 18]), ("tell", 1, 6, [14, 15]), ("commit", 10), ("deny", 1, [0]),
                 ("commit", 20))
        self.assertEqual(mistaken(calls, 1, 0), [4, 12, 15, 16, 18])
        self.assertEqual(mistaken(calls, 1, 3), [4, 12, 15, 16, 17])
        self.assertEqual(mistaken(calls, 1, 8), [0])

    def test_a_commit_at_the_last_moment(self):
        calls = (("tell", 1, 5, [0]), ("commit", FAR))
        for delay, answer in ((0, [2, 0, FAR]), (1, [2, 0, FAR - 1]), (FAR - 1, [2, 0, 1]), (FAR, [0])):
            self.assertEqual(mistaken(calls, 1, delay), answer)

    def test_another_thing(self):
        self.assertEqual(mistaken(TOLD, 8, 0), [0])

    def test_the_pending_story_is_not_known(self):
        self.assertEqual(mistaken(TOLD + (("deny", 7, [0]),), 7, 0), [2, 3, 12])

    def test_no_versions(self):
        self.assertEqual(run(("tell", 1, 5, [0]), ("mistaken", 1, 0), ("mistaken", 1, 7), ("mistaken", 1, FAR))[1:],
                         [[0]] * 3)


if __name__ == "__main__":
    unittest.main()
