"""Promises 1 to 6: what the calls make of the pending story, and the moments that they answer."""

import unittest

from tests.helper import along, last, run

FAR = 1000000000


class Tell(unittest.TestCase):
    def test_the_value_holds_at_the_moments_of_the_set_alone(self):
        self.assertEqual(along(7, range(11), ("tell", 7, 5, [3, 7, 9])),
                         [None] * 3 + [5] * 4 + [None] * 2 + [5] * 2)

    def test_answers_the_moments_changed(self):
        self.assertEqual(run(("tell", 7, 5, [3, 7, 9])), [[0, 3, 7, 9]])

    def test_the_same_value_again_changes_only_what_is_new(self):
        self.assertEqual(run(("tell", 7, 5, [3, 9]), ("tell", 7, 5, [3, 9]), ("tell", 7, 5, [4, 8]),
                             ("tell", 7, 5, [5, 12])),
                         [[0, 3, 9], [0], [0], [0, 9, 12]])

    def test_around_what_is_told_already(self):
        self.assertEqual(run(("tell", 7, 5, [3, 9]), ("tell", 7, 5, [1, 12])), [[0, 3, 9], [0, 1, 3, 9, 12]])

    def test_another_value_takes_the_place_of_the_first(self):
        calls = (("tell", 7, 5, [3, 9]), ("tell", 7, 6, [5, 12]))
        self.assertEqual(last(*calls), [0, 5, 12])
        self.assertEqual(along(7, range(2, 13), *calls), [None] + [5] * 2 + [6] * 7 + [None])

    def test_another_value_over_a_part_that_has_it_already(self):
        self.assertEqual(last(("tell", 7, 5, [3, 9]), ("tell", 7, 6, [5, 7]), ("tell", 7, 6, [3, 9])),
                         [0, 3, 5, 7, 9])

    def test_other_things_stay(self):
        calls = (("tell", 7, 5, [3, 9]), ("tell", 8, 6, [3]), ("tell", -7, 6, [0]))
        self.assertEqual(run(*calls), [[0, 3, 9], [0, 3], [0, 0]])
        self.assertEqual(along(7, [2, 3, 8, 9], *calls), [None, 5, 5, None])
        self.assertEqual(along(8, [2, 3, 9], *calls), [None, 6, 6])
        self.assertEqual(along(-7, [0, FAR], *calls), [6, 6])

    def test_no_bounds_changes_nothing(self):
        self.assertEqual(run(("tell", 7, 5, []), ("cut", 0, -1)), [[0], [0]])

    def test_the_first_and_the_last_moment(self):
        calls = (("tell", 7, 5, [0, 1, FAR]),)
        self.assertEqual(last(*calls), [0, 0, 1, FAR])
        self.assertEqual(along(7, [0, 1, FAR - 1, FAR], *calls), [5, None, None, 5])

    def test_sixty_four_bounds(self):
        bounds = list(range(10, 138, 2))
        self.assertEqual(len(bounds), 64)
        self.assertEqual(run(("tell", 7, 5, bounds)), [[0] + bounds])

    def test_zero_is_a_thing_and_a_value(self):
        self.assertEqual(along(0, [1, 2, 4], ("tell", 0, 0, [2, 4])), [None, 0, None])


class Deny(unittest.TestCase):
    def test_the_thing_has_no_value_at_the_moments(self):
        calls = (("tell", 7, 5, [3, 9]), ("tell", 7, 6, [9]), ("deny", 7, [5, 12]))
        self.assertEqual(last(*calls), [0, 5, 12])
        self.assertEqual(along(7, range(3, 14), *calls), [5] * 2 + [None] * 7 + [6] * 2)

    def test_answers_only_moments_that_had_a_value(self):
        self.assertEqual(run(("tell", 7, 5, [3, 9]), ("deny", 7, [0, 4, 8]), ("deny", 7, [0, 4, 8])),
                         [[0, 3, 9], [0, 3, 4, 8, 9], [0]])

    def test_nothing_told_nothing_changed(self):
        self.assertEqual(run(("deny", 7, [0])), [[0]])

    def test_no_bounds_changes_nothing(self):
        self.assertEqual(run(("tell", 7, 5, [3]), ("deny", 7, [])), [[0, 3], [0]])

    def test_other_things_stay(self):
        calls = (("tell", 7, 5, [3]), ("tell", 8, 5, [3]), ("deny", 7, [0]))
        self.assertEqual(last(*calls), [0, 3])
        self.assertEqual(along(8, [3], *calls), [5])

    def test_what_is_denied_can_be_told_again(self):
        self.assertEqual(run(("tell", 7, 5, [3]), ("deny", 7, [0]), ("tell", 7, 5, [4])), [[0, 3], [0, 3], [0, 4]])


class Rename(unittest.TestCase):
    def test_each_thing_with_the_value_has_the_other(self):
        calls = (("tell", 1, 5, [0, 10]), ("tell", 2, 5, [8, 20]), ("tell", 3, 6, [0]), ("rename", 5, 9, [4, 12]))
        self.assertEqual(last(*calls), [0, 4, 12])
        self.assertEqual(along(1, [3, 4, 9, 10], *calls), [5, 9, 9, None])
        self.assertEqual(along(2, [7, 8, 11, 12], *calls), [None, 9, 9, 5])
        self.assertEqual(along(3, [3, 4, 12], *calls), [6, 6, 6])

    def test_the_same_value_twice_changes_nothing(self):
        calls = (("tell", 1, 5, [2, 10]), ("rename", 5, 5, [0]))
        self.assertEqual(last(*calls), [0])
        self.assertEqual(along(1, [1, 2, 9, 10], *calls), [None, 5, 5, None])

    def test_a_value_that_no_thing_has(self):
        self.assertEqual(last(("tell", 1, 5, [2, 10]), ("rename", 6, 7, [0])), [0])

    def test_a_value_that_no_thing_has_at_these_moments(self):
        self.assertEqual(last(("tell", 1, 5, [2, 10]), ("rename", 5, 7, [0, 2, 10])), [0])

    def test_a_thing_that_has_both_at_different_moments(self):
        calls = (("tell", 1, 5, [2, 10]), ("tell", 1, 6, [10, 20]), ("rename", 5, 6, [4]))
        self.assertEqual(last(*calls), [0, 4, 10])
        self.assertEqual(along(1, [2, 3, 4, 9, 10, 19, 20], *calls), [5, 5, 6, 6, 6, 6, None])

    def test_the_other_way_of_a_thing_that_has_both(self):
        calls = (("tell", 1, 5, [2, 10]), ("tell", 1, 6, [10, 20]), ("rename", 6, 5, [0, 12]))
        self.assertEqual(last(*calls), [0, 10, 12])
        self.assertEqual(along(1, [2, 11, 12, 19], *calls), [5, 5, 6, 6])

    def test_no_bounds_changes_nothing(self):
        self.assertEqual(last(("tell", 1, 5, [2]), ("rename", 5, 6, [])), [0])

    def test_a_thing_of_the_same_number_is_not_a_value(self):
        self.assertEqual(last(("tell", 5, 1, [2]), ("rename", 5, 6, [0])), [0])


class Move(unittest.TestCase):
    told = (("tell", 1, 5, [3, 9]), ("tell", 1, 6, [9, 20]))

    def test_to_a_later_moment(self):
        calls = self.told + (("move", 1, 9, 12),)
        self.assertEqual(last(*calls), [0, 9, 12])
        self.assertEqual(along(1, [8, 9, 11, 12, 19, 20], *calls), [5, 5, 5, 6, 6, None])

    def test_to_an_earlier_moment(self):
        calls = self.told + (("move", 1, 9, 5),)
        self.assertEqual(last(*calls), [0, 5, 9])
        self.assertEqual(along(1, [3, 4, 5, 8, 9, 19], *calls), [5, 5, 6, 6, 6, 6])

    def test_to_the_same_moment(self):
        calls = self.told + (("move", 1, 9, 9),)
        self.assertEqual(last(*calls), [0])
        self.assertEqual(along(1, [8, 9], *calls), [5, 6])

    def test_later_where_there_was_no_value_before(self):
        calls = self.told + (("move", 1, 3, 10),)
        self.assertEqual(last(*calls), [0, 3, 10])
        self.assertEqual(along(1, [2, 3, 9, 10], *calls), [None, None, None, 6])

    def test_earlier_where_there_is_no_value(self):
        calls = self.told + (("move", 1, 20, 8),)
        self.assertEqual(last(*calls), [0, 8, 20])
        self.assertEqual(along(1, [7, 8, 19, 20], *calls), [5, None, None, None])

    def test_later_from_moment_zero(self):
        calls = (("tell", 1, 5, [0]), ("move", 1, 0, 4))
        self.assertEqual(last(*calls), [0, 0, 4])
        self.assertEqual(along(1, [0, 3, 4], *calls), [None, None, 5])

    def test_earlier_to_moment_zero(self):
        calls = self.told + (("move", 1, 3, 0),)
        self.assertEqual(last(*calls), [0, 0, 3])
        self.assertEqual(along(1, [0, 2, 3], *calls), [5, 5, 5])

    def test_a_moment_at_which_nothing_changes(self):
        self.assertEqual(last(*self.told, ("move", 1, 5, 8)), [0])
        calls = self.told + (("move", 1, 5, 15),)
        self.assertEqual(last(*calls), [0, 9, 15])
        self.assertEqual(along(1, [14, 15], *calls), [5, 6])

    def test_a_thing_without_values_and_another_thing(self):
        calls = self.told + (("move", 2, 9, 12),)
        self.assertEqual(last(*calls), [0])
        self.assertEqual(along(1, [8, 9], *calls), [5, 6])

    def test_the_farthest_moments(self):
        calls = (("tell", 1, 5, [0]), ("tell", 1, 6, [FAR]), ("move", 1, FAR, 0))
        self.assertEqual(last(*calls), [0, 0, FAR])
        self.assertEqual(along(1, [0, FAR], *calls), [6, 6])
        calls = (("tell", 1, 5, [0]), ("move", 1, 0, FAR))
        self.assertEqual(last(*calls), [0, 0, FAR])
        self.assertEqual(along(1, [0, FAR - 1, FAR], *calls), [None, None, 5])


class Undo(unittest.TestCase):
    def test_the_first_commit(self):
        calls = (("tell", 7, 5, [3, 9]), ("commit", 10), ("undo", 10))
        self.assertEqual(last(*calls), [0, 3, 9])
        self.assertEqual(last(*calls, ("cut", 5, -1)), [0])

    def test_what_is_known_stays(self):
        calls = (("tell", 7, 5, [3, 9]), ("commit", 10), ("undo", 10))
        self.assertEqual(last(*calls, ("cut", 5, 10)), [1, 7, 5])
        self.assertEqual(last(*calls, ("commits",)), [1, 10])

    def test_a_later_commit(self):
        calls = (("tell", 7, 5, [3, 9]), ("commit", 10), ("tell", 7, 6, [5, 12]), ("tell", 8, 1, [4]),
                 ("commit", 12), ("undo", 12))
        self.assertEqual(last(*calls), [0, 4])
        self.assertEqual(along(7, [3, 5, 8, 9, 11], *calls), [5, 5, 5, None, None])
        self.assertEqual(along(8, [4], *calls), [None])

    def test_only_what_still_stands(self):
        calls = (("tell", 7, 5, [3, 9]), ("commit", 10), ("tell", 7, 6, [5, 7]), ("undo", 10))
        self.assertEqual(last(*calls), [0, 3, 5, 7, 9])
        self.assertEqual(along(7, range(3, 9), *calls), [None, None, 6, 6, None, None])

    def test_changed_away_and_back_stands(self):
        self.assertEqual(last(("tell", 7, 5, [3, 9]), ("commit", 10), ("tell", 7, 6, [0]), ("tell", 7, 5, [4, 6]),
                              ("undo", 10)),
                         [0, 4, 6])

    def test_a_value_that_the_commit_took_away_comes_back(self):
        calls = (("tell", 7, 5, [3, 9]), ("commit", 10), ("deny", 7, [4]), ("commit", 11), ("tell", 7, 8, [6, 7]),
                 ("undo", 11))
        self.assertEqual(last(*calls), [0, 4, 6, 7, 9])
        self.assertEqual(along(7, range(3, 10), *calls), [5, 5, 5, 8, 5, 5, None])

    def test_what_an_earlier_commit_told_is_not_taken_back(self):
        calls = (("tell", 7, 5, [3, 9]), ("commit", 10), ("tell", 7, 5, [3, 12]), ("commit", 11), ("undo", 11))
        self.assertEqual(last(*calls), [0, 9, 12])

    def test_one_thing_changed_since_and_another_not(self):
        calls = (("tell", 1, 5, [3, 9]), ("tell", 2, 5, [3, 9]), ("commit", 10), ("deny", 1, [0]), ("undo", 10))
        self.assertEqual(last(*calls), [0, 3, 9])
        calls = (("tell", 1, 5, [3, 9]), ("tell", 2, 5, [3, 9]), ("commit", 10), ("tell", 1, 6, [0]), ("undo", 10))
        self.assertEqual(along(1, [3], *calls), [6])
        self.assertEqual(along(2, [3], *calls), [None])

    def test_twice_changes_nothing_the_second_time(self):
        self.assertEqual(run(("tell", 7, 5, [3, 9]), ("commit", 10), ("undo", 10), ("undo", 10))[2:],
                         [[0, 3, 9], [0]])

    def test_a_commit_of_the_same_story(self):
        self.assertEqual(last(("tell", 7, 5, [3]), ("commit", 1), ("commit", 2), ("undo", 2)), [0])

    def test_an_older_commit_gives_what_was_known_before_it(self):
        calls = (("tell", 7, 1, [0]), ("commit", 1), ("tell", 7, 2, [10]), ("commit", 2), ("tell", 7, 3, [20]),
                 ("commit", 3), ("undo", 2))
        self.assertEqual(last(*calls), [0, 10, 20])
        self.assertEqual(along(7, [0, 10, 19, 20], *calls), [1, 1, 1, 3])

    def test_a_moment_that_no_commit_named(self):
        calls = (("tell", 7, 5, [3]), ("commit", 10), ("commit", 20))
        for moment in (0, 9, 11, 15, 21, FAR):
            self.assertEqual(run(*calls, ("undo", moment), ("cut", 3, -1))[-2:], [[-3], [1, 7, 5]])
        self.assertEqual(run(("undo", 0)), [[-3]])

    def test_a_refused_commit_is_none(self):
        self.assertEqual(last(("commit", 10), ("commit", 5), ("undo", 5)), [-3])


class Recall(unittest.TestCase):
    told = (("tell", 1, 5, [3]), ("commit", 10), ("tell", 1, 6, [3]), ("tell", 2, 7, [8]), ("commit", 20),
            ("deny", 1, [0]), ("tell", 3, 9, [0]))

    def test_before_the_first_commit_nothing_was_known(self):
        calls = self.told + (("recall", 9, [2, 12]),)
        self.assertEqual(last(*calls), [0, 2, 12])
        self.assertEqual(last(*calls, ("cut", 11, -1)), [0])
        self.assertEqual(last(*calls, ("cut", 12, -1)), [2, 2, 7, 3, 9])
        self.assertEqual(last(*calls, ("cut", 1, -1)), [1, 3, 9])

    def test_at_a_commit_and_between_two(self):
        for moment in (10, 15, 19):
            calls = self.told + (("recall", moment, [0, 12]),)
            self.assertEqual(last(*calls), [0, 0, 12])
            self.assertEqual(last(*calls, ("cut", 11, -1)), [1, 1, 5])
            self.assertEqual(last(*calls, ("cut", 12, -1)), [2, 2, 7, 3, 9])

    def test_at_the_last_commit_and_behind_it(self):
        for moment in (20, 21, FAR):
            calls = self.told + (("recall", moment, [4]),)
            self.assertEqual(last(*calls), [0, 4])
            self.assertEqual(last(*calls, ("cut", 8, -1)), [2, 1, 6, 2, 7])
            self.assertEqual(last(*calls, ("cut", 3, -1)), [1, 3, 9])

    def test_answers_only_what_is_unlike(self):
        self.assertEqual(last(("tell", 1, 5, [3, 9]), ("commit", 1), ("tell", 1, 6, [5, 7]), ("recall", 1, [0])),
                         [0, 5, 7])

    def test_no_bounds_changes_nothing(self):
        self.assertEqual(last(*self.told, ("recall", 15, [])), [0])

    def test_no_versions(self):
        self.assertEqual(last(("tell", 1, 5, [3, 9]), ("recall", 0, [5])), [0, 5, 9])

    def test_what_is_known_stays(self):
        self.assertEqual(run(*self.told, ("recall", 10, [0]), ("cut", 8, 20), ("cut", 8, 10), ("commits",))[-3:],
                         [[2, 1, 6, 2, 7], [1, 1, 5], [2, 10, 20]])


class Drop(unittest.TestCase):
    def test_without_versions_nothing_is_told(self):
        self.assertEqual(run(("tell", 1, 5, [3, 9]), ("drop",), ("cut", 5, -1)), [[0, 3, 9], [0, 3, 9], [0]])

    def test_without_versions_and_without_a_story(self):
        self.assertEqual(run(("drop",)), [[0]])

    def test_with_versions_the_last_of_them(self):
        calls = (("tell", 1, 5, [3, 9]), ("commit", 1), ("tell", 1, 6, [3, 9]), ("commit", 2),
                 ("tell", 1, 7, [4, 6]), ("tell", 2, 7, [20]), ("drop",))
        self.assertEqual(last(*calls), [0, 4, 6, 20])
        self.assertEqual(along(1, [3, 4, 6], *calls), [6, 6, 6])
        self.assertEqual(along(2, [20], *calls), [None])

    def test_nothing_pending(self):
        self.assertEqual(last(("tell", 1, 5, [3, 9]), ("commit", 1), ("drop",)), [0])

    def test_changes_after_a_drop_leave_the_version_as_it_was(self):
        calls = (("tell", 1, 5, [3, 9]), ("commit", 1), ("drop",), ("tell", 1, 6, [0]))
        self.assertEqual(along(1, [0, 3], *calls, known=1), [None, 5])


if __name__ == "__main__":
    unittest.main()
