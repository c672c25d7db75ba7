"""Promise 14: picture."""

import unittest

from tests.helper import last, run

FAR = 1000000000


def picture(*calls, thing=1):
    return last(*calls, ("picture", thing))


class Picture(unittest.TestCase):
    def test_a_sheet_that_never_ends(self):
        self.assertEqual(picture(("tell", 1, 5, [3]), ("commit", 4)), [1, 4, -1, 1, 3, -1, 5])

    def test_one_sheet_behind_another(self):
        calls = (("tell", 1, 5, [3, 9]), ("commit", 10), ("tell", 1, 6, [5]), ("commit", 12))
        self.assertEqual(picture(*calls), [2, 10, 12, 1, 3, 9, 5, 12, -1, 2, 3, 5, 5, 5, -1, 6])

    def test_versions_alike_are_one_sheet(self):
        calls = (("tell", 1, 5, [3]), ("commit", 4), ("commit", 6), ("tell", 2, 5, [0]), ("commit", 7))
        self.assertEqual(picture(*calls), [1, 4, -1, 1, 3, -1, 5])
        self.assertEqual(picture(*calls, ("deny", 1, [8]), ("commit", 20)),
                         [2, 4, 20, 1, 3, -1, 5, 20, -1, 1, 3, 8, 5])

    def test_a_version_without_an_entry_between_two_with_one(self):
        calls = (("tell", 1, 5, [3]), ("commit", 4), ("deny", 1, [0]), ("commit", 6), ("tell", 1, 5, [3]),
                 ("commit", 8))
        self.assertEqual(picture(*calls), [2, 4, 6, 1, 3, -1, 5, 8, -1, 1, 3, -1, 5])

    def test_a_last_version_without_an_entry(self):
        calls = (("tell", 1, 5, [3]), ("commit", 4), ("deny", 1, [0]), ("commit", 6), ("commit", 9))
        self.assertEqual(picture(*calls), [1, 4, 6, 1, 3, -1, 5])

    def test_first_versions_without_an_entry(self):
        calls = (("commit", 0), ("tell", 2, 5, [3]), ("commit", 4), ("tell", 1, 5, [3]), ("commit", 9))
        self.assertEqual(picture(*calls), [1, 9, -1, 1, 3, -1, 5])

    def test_the_same_entries_with_others_between(self):
        calls = (("tell", 1, 5, [3]), ("commit", 4), ("tell", 1, 6, [3]), ("commit", 5), ("tell", 1, 5, [3]),
                 ("commit", 6))
        self.assertEqual(picture(*calls), [3, 4, 5, 1, 3, -1, 5, 5, 6, 1, 3, -1, 6, 6, -1, 1, 3, -1, 5])

    def test_sheets_are_in_the_order_of_their_known_moments(self):
        calls = (("tell", 1, 9, [8]), ("commit", 0), ("tell", 1, 2, [0]), ("commit", FAR))
        self.assertEqual(picture(*calls), [2, 0, FAR, 1, 8, -1, 9, FAR, -1, 1, 0, -1, 2])

    def test_unlike_by_the_value_or_by_a_moment_alone(self):
        calls = (("tell", 1, 5, [3]), ("commit", 4), ("tell", 1, 5, [2]), ("commit", 5), ("rename", 5, 6, [0]),
                 ("commit", 6), ("deny", 1, [9]), ("commit", 7))
        self.assertEqual(picture(*calls), [4, 4, 5, 1, 3, -1, 5, 5, 6, 1, 2, -1, 5, 6, 7, 1, 2, -1, 6,
                                           7, -1, 1, 2, 9, 6])

    def test_the_same_entries_reached_by_other_calls(self):
        calls = (("tell", 1, 5, [3]), ("tell", 1, 6, [5, 7]), ("commit", 4), ("deny", 1, [0]), ("tell", 1, 6, [5]),
                 ("tell", 1, 5, [3, 5, 7]), ("commit", 5))
        self.assertEqual(picture(*calls), [1, 4, -1, 3, 3, 5, 5, 5, 7, 6, 7, -1, 5])

    def test_never_told_of(self):
        self.assertEqual(picture(("tell", 1, 5, [3]), ("commit", 4), thing=5), [0])

    def test_no_versions(self):
        self.assertEqual(picture(), [0])
        self.assertEqual(picture(("tell", 1, 5, [3])), [0])

    def test_the_pending_story_has_no_sheet(self):
        self.assertEqual(run(("tell", 1, 5, [3]), ("commit", 4), ("tell", 1, 6, [3]), ("picture", 1))[-1],
                         [1, 4, -1, 1, 3, -1, 5])

    def test_many_sheets(self):
        calls = [("tell", 1, 0, [0])]
        for moment in range(59):
            calls += [("move", 1, moment, moment + 1), ("commit", moment)]
        sheets = [59]
        for moment in range(59):
            sheets += [moment, moment + 1 if moment < 58 else -1, 1, moment + 1, -1, 0]
        self.assertEqual(picture(*calls), sheets)


if __name__ == "__main__":
    unittest.main()
