"""The refusal -30: answers with more than 8000 numbers."""

import unittest

from knownwhen.questions import short_enough
from tests.helper import last, run


def comb(number, count, start=0):
    """The bounds of so many runs of one moment each; those for other numbers lie between them."""
    return [start + 150 * run + 2 * number + end for run in range(count) for end in (0, 1)]


def many_entries(numbers, start=0):
    """Tells thirty-two entries of thing 1 for each of the numbers."""
    return tuple(("tell", 1, number, comb(number, 32, start)) for number in numbers)


# Sheets of 1332 entries: two of them make 7999 numbers, and no picture has 8000 or 8001.
SHEETS = many_entries(range(41)) + (("tell", 1, 41, comb(41, 20)), ("commit", 0), ("rename", 0, 99, [0]))
ONE_ENTRY_MORE = ("tell", 1, 98, [999999])

# 1344 entries that were known ahead of the moment 10000, and 1312 that were known from then on.
WINDOWS = many_entries(range(42)) + (("commit", 0), ("deny", 1, [0])) + many_entries(range(41), 10000)

# Of sixty-two things what was known at 10 and the pending story tell unlike with 126 bounds each.
FIRST = list(range(10, 640, 10))
SECOND = list(range(1005, 1635, 10))
THINGS = tuple(("tell", thing, 0, [0]) for thing in range(62)) + (
    ("commit", 5), ("recall", 0, FIRST), ("commit", 10), ("recall", 5, [0]), ("recall", 0, SECOND))


class LongAnswers(unittest.TestCase):
    def test_the_check_itself(self):
        self.assertEqual(short_enough([0] * 8000), [0] * 8000)
        self.assertEqual(short_enough([0] * 8001), [-30])

    def test_picture(self):
        calls = SHEETS + (("commit", 1),)
        answer = last(*calls, ("picture", 1))
        self.assertEqual(len(answer), 7999)
        self.assertEqual(answer[:4], [2, 0, 1, 1332])
        self.assertEqual(answer[4000:4003], [1, -1, 1332])
        self.assertEqual(last(*SHEETS, ONE_ENTRY_MORE, ("commit", 1), ("picture", 1)), [-30])

    def test_picture_over_many_versions(self):
        calls = many_entries(range(50))
        for moment in range(20):
            calls += (("tell", 1, 60 + moment % 2, [100000]), ("commit", moment))
        self.assertEqual(last(*calls, ("picture", 1)), [-30])
        self.assertEqual(last(*calls, ("picture", 2)), [0])

    def test_behind(self):
        ten = WINDOWS + (("tell", 1, 41, comb(41, 10, 10000)), ("commit", 10000))
        eleven = WINDOWS + (("tell", 1, 41, comb(41, 11, 10000)), ("commit", 10000))
        answer = last(*ten, ("behind", 1, 0))
        self.assertEqual((len(answer), answer[:4]), (7999, [2666, 0, 1, 0]))
        self.assertEqual(run(*eleven, ("behind", 1, 0), ("behind", 1, 10001))[-1][:4], [1323, 10000, 10001, 0])
        self.assertEqual(last(*eleven, ("behind", 1, 0)), [-30])

    def test_difference(self):
        answer = last(*THINGS, ("tell", 99, 0, list(range(61))), ("difference", 10, -1))
        expected = [63]
        for thing in range(62):
            expected += [thing, 126] + FIRST + SECOND
        self.assertEqual(answer, expected + [99, 61] + list(range(61)))
        self.assertEqual(len(answer), 8000)
        longer = THINGS + (("tell", 99, 0, list(range(62))),)
        self.assertEqual(run(*longer, ("difference", 10, -1), ("difference", -1, 10))[-2:], [[-30], [-30]])

    def test_range_is_looked_at_first(self):
        calls = SHEETS + (ONE_ENTRY_MORE, ("commit", 1))
        self.assertEqual(run(*calls, ("picture", 10 ** 12), ("picture", 1))[-2:], [[-1], [-30]])

    def test_nothing_is_changed(self):
        calls = SHEETS + (ONE_ENTRY_MORE, ("commit", 1), ("deny", 1, [7]))
        asked = (("timeline", 1, -1), ("timeline", 1, 0), ("timeline", 1, 1), ("commits",), ("drop",), ("commit", 2),
                 ("timeline", 1, 2))
        self.assertEqual(run(*calls, ("picture", 1), ("picture", 1), *asked)[-9:],
                         [[-30], [-30]] + run(*calls, *asked)[-7:])


if __name__ == "__main__":
    unittest.main()
