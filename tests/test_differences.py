"""Promises 16, 17 and 18: difference, changed and settled."""

import unittest

from tests.helper import last, run

FAR = 1000000000
TOLD = (
    ("tell", 4, 1, [0, 6]), ("tell", -3, 9, [2]), ("tell", 10, -5, [4]), ("commit", 5),
    ("tell", 0, 0, [0]), ("deny", 10, [0]), ("tell", 4, 1, [6, 8]), ("commit", 9),
    ("tell", -3, 9, [1]),
)


class Difference(unittest.TestCase):
    def check(self, first, second, answer, calls=TOLD):
        self.assertEqual(last(*calls, ("difference", first, second)), answer)
        self.assertEqual(last(*calls, ("difference", second, first)), answer)

    def test_two_known_moments(self):
        self.check(5, 9, [3, 0, 1, 0, 4, 2, 6, 8, 10, 1, 4])
        self.check(8, FAR, [3, 0, 1, 0, 4, 2, 6, 8, 10, 1, 4])

    def test_a_moment_before_the_first_commit(self):
        self.check(0, 5, [3, -3, 1, 2, 4, 2, 0, 6, 10, 1, 4])
        self.check(4, 9, [3, -3, 1, 2, 0, 1, 0, 4, 2, 0, 8])

    def test_the_pending_story(self):
        self.check(9, -1, [1, -3, 2, 1, 2])
        self.check(5, -1, [4, -3, 2, 1, 2, 0, 1, 0, 4, 2, 6, 8, 10, 1, 4])
        self.check(0, -1, [3, -3, 1, 1, 0, 1, 0, 4, 2, 0, 8])

    def test_the_same_on_both_sides(self):
        for first, second in ((-1, -1), (5, 5), (5, 8), (9, FAR), (0, 4), (0, 0)):
            self.check(first, second, [0])

    def test_another_value_is_told_once(self):
        calls = (("tell", 1, 5, [0, 10]), ("commit", 1), ("tell", 1, 6, [4, 6]), ("commit", 2))
        self.check(1, 2, [1, 1, 2, 4, 6], calls)

    def test_touching_moments_are_one_run(self):
        calls = (("tell", 1, 5, [0, 10]), ("commit", 1), ("tell", 1, 6, [4, 6]), ("deny", 1, [6, 8]))
        self.check(1, -1, [1, 1, 2, 4, 8], calls)

    def test_a_value_that_two_things_change(self):
        calls = (("tell", 1, 5, [0, 10]), ("tell", 2, 6, [0, 10]), ("commit", 1), ("tell", 1, 6, [0, 10]),
                 ("tell", 2, 5, [0, 10]))
        self.check(1, -1, [2, 1, 2, 0, 10, 2, 2, 0, 10], calls)

    def test_the_smaller_thing_first(self):
        things = (3, -999999999999, 20, 0, 999999999999, -7, 100)
        calls = tuple(("tell", thing, 1, [thing % 5]) for thing in things)
        answer = [7]
        for thing in sorted(things):
            answer += [thing, 1, thing % 5]
        self.check(0, -1, answer, calls)

    def test_nothing_told(self):
        self.assertEqual(run(("difference", -1, -1), ("difference", 0, FAR), ("difference", -1, 0)), [[0]] * 3)


class Changed(unittest.TestCase):
    told = (("tell", 7, 5, [3, 9]), ("tell", 8, 5, [11, 12]), ("commit", 10), ("tell", 7, 6, [5]), ("commit", 12),
            ("commit", 13), ("tell", 7, 0, [0]), ("tell", 8, 0, [0, 2]), ("recall", 13, [1]), ("commit", 20))

    def test_the_first_commit(self):
        self.assertEqual(last(*self.told, ("changed", 10)), [4, 3, 9, 11, 12])

    def test_a_later_commit(self):
        self.assertEqual(last(*self.told, ("changed", 12)), [1, 5])
        self.assertEqual(last(*self.told, ("changed", 20)), [2, 0, 1])

    def test_a_commit_that_changed_nothing(self):
        self.assertEqual(last(*self.told, ("changed", 13)), [0])
        self.assertEqual(run(("commit", 3), ("changed", 3)), [[1], [0]])

    def test_changed_and_changed_back_ahead_of_the_commit(self):
        self.assertEqual(last(("tell", 1, 2, [3]), ("commit", 4), ("deny", 1, [7]), ("tell", 1, 2, [7]), ("commit", 5),
                              ("changed", 5)), [0])

    def test_a_moment_that_no_commit_named(self):
        for moment in (0, 9, 11, 14, 21, FAR):
            self.assertEqual(last(*self.told, ("changed", moment)), [-3])
        self.assertEqual(run(("changed", 0)), [[-3]])

    def test_a_commit_that_was_refused(self):
        self.assertEqual(last(("commit", 5), ("commit", 4), ("changed", 4)), [-3])

    def test_out_of_range(self):
        for moment in (-1, FAR + 1, 10 ** 18, -10 ** 18):
            self.assertEqual(last(*self.told, ("changed", moment)), [-1])

    def test_commits_at_the_first_and_the_last_moment(self):
        calls = (("tell", 1, 2, [0]), ("commit", 0), ("tell", 1, 3, [FAR]), ("commit", FAR))
        self.assertEqual(run(*calls, ("changed", 0), ("changed", FAR))[-2:], [[1, 0], [1, FAR]])

    def test_the_pending_story_plays_no_part(self):
        self.assertEqual(last(*self.told, ("tell", 7, 4, [0]), ("changed", 12)), [1, 5])

    def test_an_undone_commit_still_changed_what_it_did(self):
        self.assertEqual(run(*self.told, ("undo", 12), ("commit", 30), ("changed", 12), ("changed", 30))[-2:],
                         [[1, 5], [1, 5]])


class Settled(unittest.TestCase):
    def check(self, calls, *pairs):
        for moment, answer in pairs:
            self.assertEqual(last(*calls, ("settled", moment)), [answer])

    def test_no_versions(self):
        self.check((), (0, 0), (FAR, 0))
        self.check((("tell", 1, 2, [0]),), (0, 0), (FAR, 0))

    def test_by_the_last_commit_that_changed_the_moment(self):
        self.check((("tell", 7, 5, [3, 9]), ("commit", 10), ("tell", 7, 6, [5]), ("commit", 12)),
                   (0, 0), (2, 0), (3, 10), (4, 10), (5, 12), (8, 12), (9, 12), (FAR, 12))

    def test_a_commit_that_changed_nothing_at_the_moment(self):
        calls = (("tell", 1, 2, [4]), ("commit", 3), ("tell", 1, 2, [2]), ("commit", 5), ("commit", 8))
        self.check(calls, (4, 3), (FAR, 3), (3, 5), (2, 5), (1, 0))

    def test_changed_and_changed_back(self):
        calls = (("tell", 1, 5, [0]), ("commit", 3), ("tell", 1, 6, [4, 7]), ("commit", 5), ("tell", 1, 5, [0]),
                 ("commit", 9), ("commit", 11))
        self.check(calls, (0, 3), (3, 3), (4, 9), (6, 9), (7, 3))

    def test_told_and_denied(self):
        calls = (("tell", 1, 5, [0]), ("commit", 3), ("deny", 1, [0]), ("commit", 5))
        self.check(calls, (0, 5), (FAR, 5))

    def test_of_all_things(self):
        calls = (("tell", 1, 5, [0]), ("commit", 3), ("tell", 2, 5, [4]), ("commit", 5), ("tell", -6, 0, [8]),
                 ("commit", 6))
        self.check(calls, (3, 3), (4, 5), (7, 5), (8, 6))

    def test_a_thing_in_the_place_of_another(self):
        calls = (("tell", 1, 5, [0]), ("commit", 3), ("deny", 1, [0]), ("tell", 2, 5, [0]), ("commit", 5))
        self.check(calls, (0, 5))

    def test_commits_at_the_first_and_the_last_moment(self):
        calls = (("tell", 1, 2, [0]), ("commit", 0), ("tell", 1, 3, [FAR]), ("commit", FAR))
        self.check(calls, (0, 0), (FAR - 1, 0), (FAR, FAR))

    def test_the_pending_story_plays_no_part(self):
        calls = (("tell", 1, 2, [0]), ("commit", 3), ("deny", 1, [0]))
        self.check(calls, (0, 3))


if __name__ == "__main__":
    unittest.main()
