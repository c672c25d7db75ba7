"""The document's example, the interface of answers, and that questions change nothing."""

import builtins
import contextlib
import io
import unittest
from unittest import mock

import knownwhen.stories
from tests.helper import along, flat, run

# The calls of the document's example, in its order, each with its answer.
EXAMPLE_ANSWERED = (
    (("tell", 7, 5, [3, 9]), [0, 3, 9]),
    (("commit", 10), [1]),
    (("tell", 7, 6, [5]), [0, 5]),
    (("commit", 12), [2]),
    (("timeline", 7, 11), [1, 3, 9, 5]),
    (("timeline", 7, 12), [2, 3, 5, 5, 5, -1, 6]),
    (("knowledge", 7, 8), [2, 10, 12, 5, 12, -1, 6]),
    (("settled", 8), [12]),
    (("settled", 3), [10]),
    (("picture", 7), [2, 10, 12, 1, 3, 9, 5, 12, -1, 2, 3, 5, 5, 5, -1, 6]),
    (("behind", 7, 0), [1, 12, -1, 6]),
    (("mistaken", 7, 0), [2, 3, 12]),
    (("undo", 10), [0, 3, 5]),
    (("timeline", 7, -1), [1, 5, -1, 6]),
)
EXAMPLE = tuple(call for call, answer in EXAMPLE_ANSWERED)

QUESTIONS = (
    ("value", 7, 4, 11), ("value", 7, 4, -1), ("cut", 4, 12), ("cut", 6, -1), ("timeline", 7, 12), ("timeline", 7, -1),
    ("knowledge", 7, 8), ("behind", 7, 0), ("behind", 7, 9), ("mistaken", 7, 0), ("picture", 7), ("when", 7, 6, 8),
    ("difference", 10, 12), ("difference", -1, 12), ("changed", 10), ("changed", 11), ("settled", 8), ("commits",),
)


class Example(unittest.TestCase):
    def test_the_numbers_that_the_document_gives(self):
        for (call, answer), found in zip(EXAMPLE_ANSWERED, run(*EXAMPLE)):
            self.assertEqual(found, answer, call)

    def test_as_it_is_handed_in_and_given_back(self):
        numbers = [0, 7, 5, 2, 3, 9, 6, 10, 0, 7, 6, 1, 5, 6, 12, 10, 7, 11, 10, 7, 12, 11, 7, 8, 18, 8, 18, 3,
                   14, 7, 12, 7, 0, 13, 7, 0, 4, 10, 10, 7, -1]
        self.assertEqual(knownwhen.stories.answers(numbers),
                         [3, 0, 3, 9, 1, 1, 2, 0, 5, 1, 2, 4, 1, 3, 9, 5, 7, 2, 3, 5, 5, 5, -1, 6,
                          7, 2, 10, 12, 5, 12, -1, 6, 1, 12, 1, 10,
                          16, 2, 10, 12, 1, 3, 9, 5, 12, -1, 2, 3, 5, 5, 5, -1, 6,
                          4, 1, 12, -1, 6, 3, 2, 3, 12, 3, 0, 3, 5, 4, 1, 5, -1, 6])

    def test_what_the_timelines_tell(self):
        moments = [2, 3, 4, 5, 8, 9, 100]
        self.assertEqual(along(7, moments, *EXAMPLE, known=11), [None, 5, 5, 5, 5, None, None])
        self.assertEqual(along(7, moments, *EXAMPLE, known=12), [None, 5, 5, 6, 6, 6, 6])
        self.assertEqual(along(7, moments, *EXAMPLE, known=-1), [None, None, None, 6, 6, 6, 6])


class Form(unittest.TestCase):
    def test_each_call_as_it_is_written(self):
        self.assertEqual(knownwhen.stories.answers([0, 1, 2, 1, 3]), [2, 0, 3])
        self.assertEqual(knownwhen.stories.answers([1, 1, 1, 3]), [1, 0])
        self.assertEqual(knownwhen.stories.answers([2, 1, 2, 1, 3]), [1, 0])
        self.assertEqual(knownwhen.stories.answers([3, 1, 2, 3]), [1, 0])
        self.assertEqual(knownwhen.stories.answers([4, 1]), [1, -3])
        self.assertEqual(knownwhen.stories.answers([5, 1, 0]), [1, 0])
        self.assertEqual(knownwhen.stories.answers([6, 1]), [1, 1])
        self.assertEqual(knownwhen.stories.answers([7]), [1, 0])
        self.assertEqual(knownwhen.stories.answers([8, 1, 2, 3]), [1, 0])
        self.assertEqual(knownwhen.stories.answers([9, 1, 2]), [1, 0])
        self.assertEqual(knownwhen.stories.answers([10, 1, 2]), [1, 0])
        self.assertEqual(knownwhen.stories.answers([11, 1, 2]), [1, 0])
        self.assertEqual(knownwhen.stories.answers([12, 1, 2]), [1, 0])
        self.assertEqual(knownwhen.stories.answers([13, 1, 2]), [1, 0])
        self.assertEqual(knownwhen.stories.answers([14, 1]), [1, 0])
        self.assertEqual(knownwhen.stories.answers([15, 1, 2, 3]), [1, 0])
        self.assertEqual(knownwhen.stories.answers([16, 1, 2]), [1, 0])
        self.assertEqual(knownwhen.stories.answers([17, 1]), [1, -3])
        self.assertEqual(knownwhen.stories.answers([18, 1]), [1, 0])
        self.assertEqual(knownwhen.stories.answers([19]), [1, 0])

    def test_the_order_of_each_questions_numbers(self):
        told = [0, 1, 2, 1, 3, 6, 5]
        for question, answer in (([8, 1, 3, 5], [2, 1, 2]), ([9, 3, 5], [3, 1, 1, 2]), ([10, 1, 5], [4, 1, 3, -1, 2]),
                                 ([11, 1, 3], [4, 1, 5, -1, 2]), ([12, 1, 3], [4, 1, 3, -1, 2]),
                                 ([13, 1, 0], [3, 2, 3, 5]), ([14, 1], [7, 1, 5, -1, 1, 3, -1, 2]),
                                 ([15, 1, 2, 3], [2, 1, 5]), ([16, 4, 5], [4, 1, 1, 1, 3]),
                                 ([17, 5], [2, 1, 3]), ([18, 3], [1, 5]), ([19], [2, 1, 5])):
            self.assertEqual(knownwhen.stories.answers(told + question), [2, 0, 3, 1, 1] + answer)

    def test_whole_numbers_in_one_list(self):
        calls = (("tell", 1, 2, [3]), ("deny", 1, [4]), ("commit", 5), ("undo", 5), ("value", 1, 3, 5), ("cut", 3, 5),
                 ("commits",), ("tell", 1, 2, [3, 3]), ("undo", 9), ("rename", 2, 3, [0]), ("move", 1, 3, 5))
        result = knownwhen.stories.answers(flat(calls + EXAMPLE + QUESTIONS))
        self.assertIs(type(result), list)
        self.assertEqual({type(number) for number in result}, {int})

    def test_what_is_handed_in_stays(self):
        numbers = flat(EXAMPLE + (("recall", 12, [3]), ("drop",), ("tell", 1, 1, [5, 5])) + QUESTIONS)
        before = list(numbers)
        knownwhen.stories.answers(numbers)
        self.assertEqual(numbers, before)

    def test_what_is_handed_in_is_not_changed_for_a_while_either(self):
        class Watched(list):
            def refuse(self, *arguments):
                raise AssertionError("the list handed in was changed")

            append = extend = insert = pop = remove = clear = sort = reverse = refuse
            __setitem__ = __delitem__ = __iadd__ = __imul__ = refuse

        numbers = flat(EXAMPLE + (("recall", 12, [3]), ("rename", 6, 5, [0]), ("drop",)) + QUESTIONS)
        self.assertEqual(knownwhen.stories.answers(Watched(numbers)), knownwhen.stories.answers(numbers))

    def test_nothing_is_kept_from_one_time_to_the_next(self):
        first = run(*EXAMPLE, *QUESTIONS)
        self.assertEqual(run(*QUESTIONS), [[0]] * 14 + [[-3], [-3], [0], [0]])
        self.assertEqual(run(("undo", 10)), [[-3]])
        self.assertEqual(run(*EXAMPLE, *QUESTIONS), first)

    def test_an_answer_that_is_changed_changes_no_other(self):
        calls = flat(EXAMPLE + QUESTIONS)
        first = knownwhen.stories.answers(calls)
        expected = list(first)
        first.append(99)
        first[0] = 77
        self.assertEqual(knownwhen.stories.answers(calls), expected)

    def test_prints_reads_and_imports_nothing(self):
        out, err = io.StringIO(), io.StringIO()
        refused = AssertionError("nothing is to be read or imported")
        with contextlib.redirect_stdout(out), contextlib.redirect_stderr(err), \
                mock.patch.object(builtins, "open", side_effect=refused), \
                mock.patch.object(builtins, "input", side_effect=refused), \
                mock.patch.object(builtins, "__import__", side_effect=refused):
            knownwhen.stories.answers(flat(EXAMPLE + QUESTIONS))
        self.assertEqual((out.getvalue(), err.getvalue()), ("", ""))

    def test_the_longest_list(self):
        calls = [("tell", 1, 2, [10 ** 18] * 200)] * 83
        self.assertLess(len(flat(calls)), 17001)
        self.assertEqual(run(*calls), [[-2]] * 83)

    def test_a_hundred_and_twenty_calls(self):
        calls = [("tell", call % 64, call, [call, call + 2]) for call in range(60)] * 2
        self.assertEqual(run(*calls), [[0, call, call + 2] for call in range(60)] + [[0]] * 60)

    def test_a_hundred_and_twenty_calls_of_all_sorts(self):
        calls = (EXAMPLE + QUESTIONS) * 4
        calls = calls[:120]
        self.assertEqual(len(calls), 120)
        found = run(*calls)
        self.assertEqual(found[:len(EXAMPLE)], [answer for call, answer in EXAMPLE_ANSWERED])
        # The commits of the example are refused when they come again.
        self.assertEqual([found[place] for place, call in enumerate(calls) if call[0] == "commit"],
                         [[1], [2]] + [[-4]] * 6)

    def test_about_seventeen_thousand_numbers_of_all_sorts(self):
        calls = [("tell", 1, 2, [moment * 10 for moment in range(64)]), ("commit", 3)]
        calls += [("tell", 1, 2, [5] * 200), ("deny", 1, list(range(200))), ("rename", 2, 3, [-1] * 200),
                  ("recall", 3, [10 ** 18] * 200)] * 20 + [("tell", 1, 3, [9] * 190)]
        calls += [("timeline", 1, 3), ("difference", 3, -1), ("settled", 0), ("picture", 1)]
        self.assertTrue(16500 < len(flat(calls)) <= 17000)
        found = run(*calls)
        self.assertEqual(found[2:83], [[-2]] * 81)
        entries = [number for moment in range(0, 640, 20) for number in (moment, moment + 10, 2)]
        self.assertEqual(found[83:], [[32] + entries, [0], [3], [1, 3, -1, 32] + entries])


class NothingChanged(unittest.TestCase):
    def test_the_same_question_twice(self):
        for question in QUESTIONS:
            found = run(*EXAMPLE, question, question)
            self.assertEqual(found[-1], found[-2])

    def test_what_is_told_behind_a_question(self):
        told = (("drop",), ("undo", 12), ("commit", 20), ("recall", 11, [4]), ("commit", 21))
        expected = run(*EXAMPLE, *told, *QUESTIONS)[len(EXAMPLE):]
        for question in QUESTIONS:
            self.assertEqual(run(*EXAMPLE, question, *told, *QUESTIONS)[len(EXAMPLE) + 1:], expected)


if __name__ == "__main__":
    unittest.main()
