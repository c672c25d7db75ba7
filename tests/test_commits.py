"""Promises 7 and 19: commit and commits."""

import unittest

from tests.helper import along, last, run

FAR = 1000000000


class Commit(unittest.TestCase):
    def test_answers_how_many_versions_there_are(self):
        self.assertEqual(run(("commit", 0), ("commit", 1), ("commit", FAR)), [[1], [2], [3]])

    def test_the_pending_story_becomes_known_from_then_on(self):
        calls = (("tell", 7, 5, [3]), ("commit", 10))
        self.assertEqual(along(7, [3], *calls, known=9), [None])
        self.assertEqual(along(7, [3], *calls, known=10), [5])
        self.assertEqual(along(7, [3], *calls, known=FAR), [5])

    def test_the_pending_story_goes_on(self):
        calls = (("tell", 7, 5, [3]), ("commit", 10), ("tell", 8, 6, [3]))
        self.assertEqual(last(*calls, ("cut", 3, -1)), [2, 7, 5, 8, 6])
        self.assertEqual(last(*calls, ("cut", 3, 10)), [1, 7, 5])

    def test_the_same_story_as_before(self):
        self.assertEqual(run(("tell", 7, 5, [3]), ("commit", 10), ("commit", 11), ("commits",)),
                         [[0, 3], [1], [2], [2, 10, 11]])

    def test_a_moment_that_is_not_later(self):
        for moment in (0, 9, 10):
            self.assertEqual(run(("commit", 10), ("commit", moment), ("commits",)), [[1], [-4], [1, 10]])

    def test_not_later_than_all_before(self):
        self.assertEqual(run(("commit", 10), ("commit", 20), ("commit", 15), ("commit", 20), ("commit", 21)),
                         [[1], [2], [-4], [-4], [3]])

    def test_a_refused_commit_makes_nothing_known(self):
        calls = (("commit", 10), ("tell", 7, 5, [3]), ("commit", 10))
        self.assertEqual(along(7, [3], *calls, known=10), [None])

    def test_sixty_four_versions_and_no_more(self):
        calls = [("commit", moment) for moment in range(65)]
        found = run(*calls, ("commits",))
        self.assertEqual(found[:64], [[count] for count in range(1, 65)])
        self.assertEqual(found[64], [-5])
        self.assertEqual(found[65], [64] + list(range(64)))

    def test_not_later_is_looked_at_before_too_many(self):
        calls = [("commit", moment) for moment in range(64)]
        self.assertEqual(run(*calls, ("commit", 63), ("commit", 64))[-2:], [[-4], [-5]])

    def test_everything_else_goes_on_with_sixty_four_versions(self):
        calls = [("commit", moment) for moment in range(64)]
        self.assertEqual(run(*calls, ("commit", 64), ("tell", 1, 2, [3]), ("cut", 3, -1), ("undo", 63), ("drop",))[-4:],
                         [[0, 3], [1, 1, 2], [0], [0, 3]])


class Commits(unittest.TestCase):
    def test_none(self):
        self.assertEqual(run(("commits",)), [[0]])

    def test_one(self):
        self.assertEqual(last(("commit", 0), ("commits",)), [1, 0])
        self.assertEqual(last(("commit", FAR), ("commits",)), [1, FAR])

    def test_sixty_four(self):
        calls = [("commit", moment * 3) for moment in range(64)]
        self.assertEqual(last(*calls, ("commits",)), [64] + [moment * 3 for moment in range(64)])

    def test_in_order(self):
        self.assertEqual(last(("commit", 0), ("commit", 7), ("commit", FAR), ("commits",)), [3, 0, 7, FAR])

    def test_refused_commits_are_not_told(self):
        self.assertEqual(last(("commit", 5), ("commit", 5), ("commit", -1), ("commit", FAR + 1), ("commits",)), [1, 5])

    def test_changes_nothing(self):
        self.assertEqual(run(("commit", 5), ("commits",), ("commits",), ("commit", 6), ("commits",)),
                         [[1], [1, 5], [1, 5], [2], [2, 5, 6]])

    def test_undo_takes_no_commit_off(self):
        self.assertEqual(last(("tell", 1, 2, [3]), ("commit", 5), ("undo", 5), ("drop",), ("commits",)), [1, 5])


if __name__ == "__main__":
    unittest.main()
