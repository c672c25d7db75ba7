"""Promises 10, 11 and 15: timeline, knowledge and when."""

import unittest

from tests.helper import last, run

FAR = 1000000000
TOLD = (("tell", 7, 5, [3, 9]), ("commit", 10), ("tell", 7, 6, [5]), ("commit", 12))


def pending(thing, *calls):
    return last(*calls, ("timeline", thing, -1))


class Timeline(unittest.TestCase):
    def test_as_it_was_known(self):
        for known, answer in ((0, [0]), (9, [0]), (10, [1, 3, 9, 5]), (11, [1, 3, 9, 5]),
                              (12, [2, 3, 5, 5, 5, -1, 6]), (FAR, [2, 3, 5, 5, 5, -1, 6])):
            self.assertEqual(last(*TOLD, ("timeline", 7, known)), answer)

    def test_the_pending_story(self):
        self.assertEqual(run(*TOLD, ("deny", 7, [0, 6]), ("timeline", 7, -1), ("timeline", 7, 12))[-2:],
                         [[1, 6, -1, 6], [2, 3, 5, 5, 5, -1, 6]])

    def test_before_anything_is_committed(self):
        self.assertEqual(run(("tell", 7, 5, [3]), ("timeline", 7, 0), ("timeline", 7, FAR), ("timeline", 7, -1))[1:],
                         [[0], [0], [1, 3, -1, 5]])

    def test_a_thing_that_was_never_told_of(self):
        self.assertEqual(run(*TOLD, ("timeline", 8, 12), ("timeline", 5, 12), ("timeline", 8, -1))[-3:], [[0]] * 3)

    def test_a_run_that_never_ends(self):
        self.assertEqual(pending(7, ("tell", 7, 6, [0])), [1, 0, -1, 6])
        self.assertEqual(pending(7, ("tell", 7, 6, [FAR])), [1, FAR, -1, 6])

    def test_a_run_that_ends(self):
        self.assertEqual(pending(7, ("tell", 7, 6, [0, 1])), [1, 0, 1, 6])
        self.assertEqual(pending(7, ("tell", 7, 6, [0, FAR])), [1, 0, FAR, 6])

    def test_the_same_value_with_a_gap_between(self):
        self.assertEqual(pending(7, ("tell", 7, 5, [3, 5, 6, 10])), [2, 3, 5, 5, 6, 10, 5])
        self.assertEqual(pending(7, ("tell", 7, 5, [3, 5, 8])), [2, 3, 5, 5, 8, -1, 5])

    def test_the_same_value_without_a_gap(self):
        self.assertEqual(pending(7, ("tell", 7, 5, [3, 5]), ("tell", 7, 5, [5, 9])), [1, 3, 9, 5])
        self.assertEqual(pending(7, ("tell", 7, 5, [3, 5]), ("tell", 7, 6, [5, 9]), ("rename", 6, 5, [0])),
                         [1, 3, 9, 5])

    def test_values_that_touch(self):
        self.assertEqual(pending(7, ("tell", 7, 5, [3, 5]), ("tell", 7, 6, [5])), [2, 3, 5, 5, 5, -1, 6])

    def test_in_the_order_of_the_moments(self):
        self.assertEqual(pending(7, ("tell", 7, 9, [0]), ("tell", 7, 1, [2, 4]), ("tell", 7, -3, [8, 9])),
                         [5, 0, 2, 9, 2, 4, 1, 4, 8, 9, 8, 9, -3, 9, -1, 9])

    def test_other_things_are_left_out(self):
        self.assertEqual(pending(7, ("tell", 8, 5, [0]), ("tell", 7, 5, [3, 4]), ("tell", 6, 9, [3])), [1, 3, 4, 5])

    def test_the_value_0_is_a_value(self):
        self.assertEqual(pending(0, ("tell", 0, 0, [0, 2])), [1, 0, 2, 0])

    def test_a_thing_and_a_value_at_their_ends(self):
        most = 999999999999
        self.assertEqual(pending(-most, ("tell", -most, most, [4]), ("tell", -most, -most, [6])),
                         [2, 4, 6, most, 6, -1, -most])

    def test_sixty_four_values_with_sixty_four_bounds(self):
        bounds = [[65 * run * 2 + number * 2 + end for run in range(32) for end in (0, 1)] for number in range(64)]
        calls = [("tell", 1, number, bounds[number]) for number in range(64)]
        entries = sorted((bounds[number][2 * run], bounds[number][2 * run + 1], number)
                         for number in range(64) for run in range(32))
        self.assertEqual(last(*calls, ("timeline", 1, -1)), [2048] + [number for entry in entries for number in entry])


class Known(unittest.TestCase):
    """Knowledge, and when for each value that it tells."""

    def check(self, calls, thing, moment, *entries):
        answer = last(*calls, ("knowledge", thing, moment))
        self.assertEqual(answer, [len(entries)] + [number for entry in entries for number in entry])
        for value in sorted({entry[2] for entry in entries} | {404}):
            bounds = []
            for first, behind, told in entries:
                if told == value:
                    bounds += [first] if behind == -1 else [first, behind]
            self.assertEqual(last(*calls, ("when", thing, value, moment)), [len(bounds)] + bounds)

    def test_from_one_value_to_another(self):
        self.check(TOLD, 7, 8, (10, 12, 5), (12, -1, 6))

    def test_the_same_value_in_both_versions(self):
        self.check(TOLD, 7, 3, (10, -1, 5))
        self.check(TOLD, 7, 4, (10, -1, 5))

    def test_a_value_that_was_told_later(self):
        self.check(TOLD, 7, 9, (12, -1, 6))
        self.check(TOLD, 7, FAR, (12, -1, 6))

    def test_a_moment_that_nothing_was_ever_told_of(self):
        self.check(TOLD, 7, 2)
        self.check(TOLD, 7, 0)
        self.check(TOLD, 8, 4)

    def test_known_then_not_then_again(self):
        calls = (("tell", 1, 5, [0]), ("commit", 3), ("deny", 1, [0]), ("commit", 6), ("tell", 1, 5, [0]),
                 ("commit", 8))
        for moment in (0, 4, FAR):
            self.check(calls, 1, moment, (3, 6, 5), (8, -1, 5))

    def test_known_and_no_more(self):
        calls = (("tell", 1, 5, [0]), ("commit", 3), ("deny", 1, [4]), ("commit", FAR))
        self.check(calls, 1, FAR, (3, FAR, 5))
        self.check(calls, 1, 3, (3, -1, 5))

    def test_another_value_for_a_while(self):
        calls = (("tell", 1, 5, [0]), ("commit", 3), ("tell", 1, 6, [2]), ("commit", 6), ("recall", 3, [0]),
                 ("commit", 7))
        self.check(calls, 1, 2, (3, 6, 5), (6, 7, 6), (7, -1, 5))
        self.check(calls, 1, 1, (3, -1, 5))

    def test_commits_that_tell_the_same(self):
        calls = (("tell", 1, 5, [0]), ("commit", 3), ("commit", 4), ("tell", 1, 6, [8]), ("tell", 2, 6, [0]),
                 ("commit", 9), ("tell", 1, 6, [0]), ("commit", 20), ("commit", 21))
        self.check(calls, 1, 7, (3, 20, 5), (20, -1, 6))

    def test_nothing_is_known_before_the_first_commit(self):
        self.check((("tell", 1, 5, [0]), ("commit", 0)), 1, 0, (0, -1, 5))
        self.check((("tell", 1, 5, [0]), ("commit", 1)), 1, 0, (1, -1, 5))
        self.check((("tell", 1, 5, [0]), ("commit", FAR)), 1, 0, (FAR, -1, 5))

    def test_the_pending_story_is_not_known(self):
        self.check((("tell", 1, 5, [0]),), 1, 0)
        self.check((("tell", 1, 5, [0]), ("commit", 2), ("tell", 1, 6, [0])), 1, 0, (2, -1, 5))

    def test_no_versions(self):
        self.assertEqual(run(("knowledge", 0, 0), ("when", 0, 0, 0)), [[0], [0]])

    def test_a_commit_that_comes_late_changes_the_answer(self):
        self.assertEqual(run(*TOLD, ("knowledge", 7, 8), ("deny", 7, [8, 9]), ("knowledge", 7, 8), ("commit", 20),
                             ("knowledge", 7, 8), ("when", 7, 6, 8))[-5:],
                         [[0, 8, 9], [2, 10, 12, 5, 12, -1, 6], [3], [2, 10, 12, 5, 12, 20, 6], [2, 12, 20]])

    def test_when_asks_for_one_thing_and_one_value(self):
        calls = (("tell", 1, 5, [0]), ("tell", 2, 6, [0]), ("commit", 3))
        self.assertEqual(run(*calls, ("when", 1, 5, 0), ("when", 2, 6, 0), ("when", 1, 6, 0), ("when", 2, 5, 0))[-4:],
                         [[1, 3], [1, 3], [0], [0]])

    def test_a_value_that_goes_back_and_forth(self):
        calls = []
        for moment in range(50):
            calls += [("tell", 1, moment % 2, [0]), ("commit", moment)]
        self.assertEqual(run(*calls, ("when", 1, 0, 7), ("when", 1, 1, 7))[-2:],
                         [[50] + list(range(50)), [49] + list(range(1, 50))])


if __name__ == "__main__":
    unittest.main()
