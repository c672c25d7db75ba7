"""The interface of answers, and the part of the document's example that there is so far."""

import builtins
import contextlib
import io
import unittest
from unittest import mock

import knownwhen.stories
from tests.helper import along, flat, run

EXAMPLE = (("tell", 7, 5, [3, 9]), ("commit", 10), ("tell", 7, 6, [5]), ("commit", 12), ("undo", 10))


class Example(unittest.TestCase):
    def test_the_numbers_that_the_document_gives(self):
        self.assertEqual(run(*EXAMPLE), [[0, 3, 9], [1], [0, 5], [2], [0, 3, 5]])

    def test_as_it_is_handed_in_and_given_back(self):
        self.assertEqual(knownwhen.stories.answers([0, 7, 5, 2, 3, 9, 6, 10, 0, 7, 6, 1, 5, 6, 12, 4, 10]),
                         [3, 0, 3, 9, 1, 1, 2, 0, 5, 1, 2, 3, 0, 3, 5])

    def test_what_the_timelines_tell(self):
        moments = [2, 3, 4, 5, 8, 9, 100]
        self.assertEqual(along(7, moments, *EXAMPLE, known=11), [None, 5, 5, 5, 5, None, None])
        self.assertEqual(along(7, moments, *EXAMPLE, known=12), [None, 5, 5, 6, 6, 6, 6])
        self.assertEqual(along(7, moments, *EXAMPLE, known=-1), [None, None, None, 6, 6, 6, 6])


class Form(unittest.TestCase):
    def test_each_call_as_it_is_written(self):
        self.assertEqual(knownwhen.stories.answers([0, 1, 2, 1, 3]), [2, 0, 3])
        self.assertEqual(knownwhen.stories.answers([1, 1, 1, 3]), [1, 0])
        self.assertEqual(knownwhen.stories.answers([2, 1, 2, 1, 3]), [1, 0])
        self.assertEqual(knownwhen.stories.answers([3, 1, 2, 3]), [1, 0])
        self.assertEqual(knownwhen.stories.answers([4, 1]), [1, -3])
        self.assertEqual(knownwhen.stories.answers([5, 1, 0]), [1, 0])
        self.assertEqual(knownwhen.stories.answers([6, 1]), [1, 1])
        self.assertEqual(knownwhen.stories.answers([7]), [1, 0])
        self.assertEqual(knownwhen.stories.answers([8, 1, 2, 3]), [1, 0])
        self.assertEqual(knownwhen.stories.answers([9, 1, 2]), [1, 0])
        self.assertEqual(knownwhen.stories.answers([19]), [1, 0])

    def test_whole_numbers_in_one_list(self):
        calls = (("tell", 1, 2, [3]), ("deny", 1, [4]), ("commit", 5), ("undo", 5), ("value", 1, 3, 5), ("cut", 3, 5),
                 ("commits",), ("tell", 1, 2, [3, 3]), ("undo", 9), ("rename", 2, 3, [0]), ("move", 1, 3, 5))
        result = knownwhen.stories.answers(flat(calls))
        self.assertIs(type(result), list)
        self.assertEqual({type(number) for number in result}, {int})

    def test_what_is_handed_in_stays(self):
        numbers = flat(EXAMPLE + (("recall", 12, [3]), ("drop",), ("cut", 3, -1), ("tell", 1, 1, [5, 5])))
        before = list(numbers)
        knownwhen.stories.answers(numbers)
        self.assertEqual(numbers, before)

    def test_what_is_handed_in_is_not_changed_for_a_while_either(self):
        class Watched(list):
            def refuse(self, *arguments):
                raise AssertionError("the list handed in was changed")

            append = extend = insert = pop = remove = clear = sort = reverse = refuse
            __setitem__ = __delitem__ = __iadd__ = __imul__ = refuse

        numbers = flat(EXAMPLE + (("recall", 12, [3]), ("rename", 6, 5, [0]), ("drop",), ("cut", 3, -1)))
        self.assertEqual(knownwhen.stories.answers(Watched(numbers)), knownwhen.stories.answers(numbers))

    def test_nothing_is_kept_from_one_time_to_the_next(self):
        first = run(*EXAMPLE)
        self.assertEqual(run(("cut", 5, -1), ("cut", 5, 12), ("commits",), ("undo", 10)), [[0], [0], [0], [-3]])
        self.assertEqual(run(*EXAMPLE), first)

    def test_an_answer_that_is_changed_changes_no_other(self):
        calls = flat((("commit", 5), ("commits",)))
        first = knownwhen.stories.answers(calls)
        expected = list(first)
        first.append(99)
        first[0] = 77
        self.assertEqual(knownwhen.stories.answers(calls), expected)

    def test_prints_reads_and_imports_nothing(self):
        out, err = io.StringIO(), io.StringIO()
        refused = AssertionError("nothing is to be read or imported")
        with contextlib.redirect_stdout(out), contextlib.redirect_stderr(err), \
                mock.patch.object(builtins, "open", side_effect=refused), \
                mock.patch.object(builtins, "input", side_effect=refused), \
                mock.patch.object(builtins, "__import__", side_effect=refused):
            knownwhen.stories.answers(flat(EXAMPLE))
        self.assertEqual((out.getvalue(), err.getvalue()), ("", ""))

    def test_the_longest_list(self):
        calls = [("tell", 1, 2, [10 ** 18] * 200)] * 83
        self.assertLess(len(flat(calls)), 17001)
        self.assertEqual(run(*calls), [[-2]] * 83)

    def test_a_hundred_and_twenty_calls(self):
        calls = [("tell", call % 64, call, [call, call + 2]) for call in range(60)] * 2
        self.assertEqual(run(*calls), [[0, call, call + 2] for call in range(60)] + [[0]] * 60)


if __name__ == "__main__":
    unittest.main()
