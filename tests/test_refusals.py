"""The refusals, their order, and that what is refused changes nothing."""

import unittest

from tests.helper import last, run

FAR = 1000000000
LABEL = 999999999999
HUGE = 10 ** 18

# For each call a form that is taken after the calls of START, and which of its places holds what.
START = (("tell", 1, 2, [0, 50]), ("commit", 5))
TAKEN = {
    "tell": (("tell", 1, 3, [4]), ("label", "label", "set")),
    "deny": (("deny", 1, [4]), ("label", "set")),
    "rename": (("rename", 2, 3, [4]), ("label", "label", "set")),
    "move": (("move", 1, 4, 6), ("label", "moment", "moment")),
    "undo": (("undo", 5), ("moment",)),
    "recall": (("recall", 5, [4]), ("moment", "set")),
    "commit": (("commit", 6), ("moment",)),
    "value": (("value", 1, 4, 5), ("label", "moment", "asked")),
    "cut": (("cut", 4, 5), ("moment", "asked")),
    "timeline": (("timeline", 1, 5), ("label", "asked")),
    "knowledge": (("knowledge", 1, 4), ("label", "moment")),
    "behind": (("behind", 1, 4), ("label", "moment")),
    "mistaken": (("mistaken", 1, 4), ("label", "moment")),
    "picture": (("picture", 1), ("label",)),
    "when": (("when", 1, 2, 4), ("label", "label", "moment")),
    "difference": (("difference", 0, 5), ("asked", "asked")),
    "changed": (("changed", 5), ("moment",)),
    "settled": (("settled", 4), ("moment",)),
}
BEYOND = {
    "label": (LABEL + 1, -LABEL - 1, HUGE, -HUGE),
    "moment": (-1, -2, FAR + 1, HUGE, -HUGE),
    "asked": (-2, FAR + 1, HUGE, -HUGE),
}
WITHIN = {
    "label": (LABEL, -LABEL, 0),
    "moment": (0, FAR),
    "asked": (-1, 0, FAR),
}
BAD_SETS = (
    [3, 3], [4, 3], [1, 5, 5], [1, 5, 4], [-1], [-1, 3], [FAR + 1], [3, FAR + 1], [HUGE], [-HUGE], [-HUGE, HUGE],
    list(range(65)), list(range(200)), [0] * 200, [HUGE] * 200, list(range(64)) + [5],
)
GOOD_SETS = ([], [0], [FAR], [0, FAR], [3, 7, 9], list(range(64)), list(range(FAR - 63, FAR + 1)))


def places(kind):
    for name, (call, kinds) in TAKEN.items():
        for place, found in enumerate(kinds, start=1):
            if found == kind:
                yield name, call, place


def changed(call, place, argument):
    return call[:place] + (argument,) + call[place + 1:]


def state():
    return (("cut", 0, -1), ("cut", 4, -1), ("cut", 100, -1), ("cut", 4, FAR), ("commits",))


class Ranges(unittest.TestCase):
    def test_every_form_is_taken(self):
        for call, kinds in TAKEN.values():
            self.assertEqual(len(call), len(kinds) + 1)
            self.assertGreaterEqual(last(*START, call)[0], 0)

    def test_beyond_each_range(self):
        for kind, arguments in BEYOND.items():
            for name, call, place in places(kind):
                for argument in arguments:
                    with self.subTest(name=name, place=place, argument=argument):
                        self.assertEqual(last(*START, changed(call, place, argument)), [-1])

    def test_at_the_ends_of_each_range(self):
        for kind, arguments in WITHIN.items():
            for name, call, place in places(kind):
                for argument in arguments:
                    with self.subTest(name=name, place=place, argument=argument):
                        answer = last(*START, changed(call, place, argument))
                        self.assertNotIn(answer, ([-1], [-2]))

    def test_things_and_values_at_their_ends(self):
        for thing in (LABEL, -LABEL):
            for value in (LABEL, -LABEL):
                self.assertEqual(run(("tell", thing, value, [3]), ("value", thing, 3, -1), ("cut", 3, -1),
                                     ("rename", value, 0, [0]), ("cut", 3, -1)),
                                 [[0, 3], [1, value], [1, thing, value], [0, 3], [1, thing, 0]])

    def test_the_pending_story_where_it_may_not_be_asked_for(self):
        self.assertEqual(run(*START, ("undo", -1), ("recall", -1, [0]), ("commit", -1), ("changed", -1))[-4:],
                         [[-1]] * 4)

    def test_the_pending_story_where_it_may_be_asked_for(self):
        self.assertEqual(run(*START, ("value", 1, 4, -1), ("cut", 4, -1), ("timeline", 1, -1), ("difference", -1, 4),
                             ("difference", 4, -1))[-5:],
                         [[1, 2], [1, 1, 2], [1, 0, 50, 2], [1, 1, 2, 0, 50], [1, 1, 2, 0, 50]])

    def test_minus_one_is_no_valid_moment(self):
        self.assertEqual(run(("value", 1, -1, -1), ("cut", -1, -1), ("move", 1, -1, 3), ("move", 1, 3, -1),
                             ("knowledge", 1, -1), ("when", 1, 1, -1), ("settled", -1)),
                         [[-1]] * 7)


class SetsAsked(unittest.TestCase):
    def test_lists_that_are_no_set(self):
        for name, call, place in places("set"):
            for bad in BAD_SETS:
                with self.subTest(name=name, bad=bad[:4], length=len(bad)):
                    self.assertEqual(last(*START, changed(call, place, bad)), [-2])

    def test_lists_that_are_sets(self):
        for name, call, place in places("set"):
            for good in GOOD_SETS:
                with self.subTest(name=name, good=good[:4], length=len(good)):
                    self.assertEqual(last(*START, changed(call, place, good))[0], 0)

    def test_a_long_list_does_not_shift_the_calls_behind_it(self):
        self.assertEqual(run(("tell", 1, 2, [6] * 200), ("tell", 1, 2, [3]), ("cut", 3, -1)), [[-2], [0, 3], [1, 1, 2]])


class Order(unittest.TestCase):
    def test_range_before_set(self):
        for kind in ("label", "moment"):
            for name, call, place in places(kind):
                if TAKEN[name][1][-1] == "set":
                    both = changed(changed(call, place, HUGE), len(call) - 1, [3, 3])
                    self.assertEqual(last(*START, both), [-1])

    def test_range_before_no_such_commit(self):
        self.assertEqual(run(("undo", FAR + 1), ("undo", FAR)), [[-1], [-3]])
        self.assertEqual(run(("changed", FAR + 1), ("changed", FAR)), [[-1], [-3]])

    def test_range_before_not_later(self):
        self.assertEqual(run(("commit", FAR), ("commit", -1), ("commit", FAR + 1), ("commit", FAR)),
                         [[1], [-1], [-1], [-4]])

    def test_range_before_too_many_versions(self):
        self.assertEqual(last(*[("commit", moment) for moment in range(64)], ("commit", FAR + 1)), [-1])

    def test_range_and_set_before_too_large(self):
        full = [("tell", thing, 0, [0]) for thing in range(64)]
        self.assertEqual(run(*full, ("tell", 64, LABEL + 1, [0]), ("tell", 64, 0, [0, 0]), ("tell", 64, 0, [0]))[-3:],
                         [[-1], [-2], [-6]])

    def test_no_such_commit_before_too_large(self):
        full = [("tell", thing, 0, [0]) for thing in range(64)]
        self.assertEqual(run(("tell", 99, 0, [0]), ("commit", 1), ("deny", 99, [0]), ("commit", 2), *full,
                             ("undo", 3), ("undo", 2))[-2:],
                         [[-3], [-6]])


class NothingChanged(unittest.TestCase):
    def test_a_refused_call_leaves_all_as_it_was(self):
        before = run(*START, ("tell", 9, 9, [2, 60]), *state())[-5:]
        refused = [("undo", 4), ("changed", 4), ("commit", 5)]
        for kind, arguments in BEYOND.items():
            for name, call, place in places(kind):
                refused.append(changed(call, place, arguments[0]))
        for name, call, place in places("set"):
            refused.append(changed(call, place, [3, 3]))
        for call in refused:
            with self.subTest(call=call):
                answers = run(*START, ("tell", 9, 9, [2, 60]), call, *state())
                self.assertLess(answers[3][0], 0)
                self.assertEqual(len(answers[3]), 1)
                self.assertEqual(answers[-5:], before)


class TooLarge(unittest.TestCase):
    full = tuple([("tell", thing, 0, [0, 100]) for thing in range(64)])
    # Thing 1 has the value 2 in thirty-two runs: sixty-four bounds.
    comb = (("tell", 1, 2, list(range(0, 256, 4))),)

    def kept(self, calls, refused):
        before = run(*calls, ("cut", 1, -1), ("cut", 5, -1), ("drop",))[-3:]
        answers = run(*calls, refused, ("cut", 1, -1), ("cut", 5, -1), ("drop",))
        self.assertEqual(answers[len(calls)], [-6])
        self.assertEqual(answers[-3:], before)

    def test_the_sixty_fifth_line_of_another_thing(self):
        self.assertEqual([answer[0] for answer in run(*self.full)], [0] * 64)
        self.kept(self.full, ("tell", 64, 0, [0]))

    def test_the_sixty_fifth_line_of_the_same_thing(self):
        self.kept(self.full, ("tell", 5, 1, [5]))

    def test_a_line_for_a_line_is_taken(self):
        calls = self.full + (("tell", 5, 1, [0]), ("tell", 64, 0, [0]))
        self.assertEqual(run(*calls)[-2:], [[0, 0], [-6]])

    def test_a_tell_of_no_moment_makes_no_line(self):
        self.assertEqual(last(*self.full, ("tell", 64, 0, [])), [0])

    def test_a_line_that_went_makes_room(self):
        self.assertEqual(run(*self.full, ("deny", 3, [0]), ("tell", 64, 0, [0]))[-2:], [[0, 0, 100], [0, 0]])

    def test_rename_that_makes_lines(self):
        self.kept(self.full, ("rename", 0, 1, [5]))
        self.assertEqual(last(*self.full, ("rename", 0, 1, [0])), [0, 0, 100])

    def test_the_sixty_fifth_bound_by_tell(self):
        self.assertEqual(last(*self.comb), [0] + self.comb[0][3])
        self.kept(self.comb, ("tell", 1, 2, [1000]))
        self.kept(self.comb, ("tell", 1, 2, [1000, 1001]))

    def test_the_sixty_fifth_bound_by_another_value(self):
        self.kept(self.comb, ("tell", 1, 3, [1, 2]))

    def test_exactly_sixty_five_bounds(self):
        self.assertEqual(len(self.comb[0][3]), 64)
        self.kept(self.comb, ("tell", 1, 2, [FAR]))

    def test_exactly_sixty_four_bounds(self):
        calls = (("tell", 1, 2, list(range(0, 252, 4))), ("tell", 1, 2, [248, 300]))
        self.assertEqual(len(calls[0][3]), 63)
        self.assertEqual(run(*calls, ("deny", 1, [400])), [[0] + calls[0][3], [0], [0, 400]])

    def test_the_sixty_fifth_bound_by_deny(self):
        self.kept(self.comb, ("deny", 1, [1, 2]))

    def test_the_sixty_fifth_bound_by_rename(self):
        self.kept(self.comb, ("rename", 2, 3, [1, 2]))
        self.kept(self.comb + (("tell", 1, 3, [1000, 1001]),), ("rename", 3, 2, [0]))

    def test_two_lines_of_sixty_four_bounds(self):
        self.assertEqual(run(*self.comb, ("tell", 2, 2, self.comb[0][3]), ("tell", 1, 3, [1000]))[1:],
                         [[0] + self.comb[0][3], [0, 1000]])

    def test_recall(self):
        known = (("tell", 99, 0, [0]), ("commit", 1), ("deny", 99, [0]))
        self.kept(known + self.full, ("recall", 1, [100]))
        self.assertEqual(last(*known, *self.full, ("recall", 1, [0])), [0, 0])

    def test_undo(self):
        known = (("tell", 99, 0, [0]), ("commit", 1), ("deny", 99, [0]), ("commit", 2))
        self.kept(known + self.full, ("undo", 2))

    def test_the_sixty_fifth_bound_by_undo(self):
        known = (("tell", 1, 2, [1000]), ("commit", 1), ("deny", 1, [0]), ("commit", 2))
        self.kept(known + self.comb, ("undo", 2))

    def test_drop_is_always_taken(self):
        known = self.full + (("commit", 1), ("deny", 1, [0]), ("tell", 99, 0, [7]))
        self.assertEqual(last(*known, ("drop",)), [0, 0])


if __name__ == "__main__":
    unittest.main()
