import unittest

from knownwhen.moments import ahead, any_of, both, covered, holds, just_one, runs, without

SETS = ([], [0], [3], [3, 7], [3, 7, 9], [0, 4, 5, 8], [7, 9], [2, 3, 7, 12, 15])


def members(bounds):
    return [moment for moment in range(20) if holds(bounds, moment)]


class Sets(unittest.TestCase):
    def test_members_of_the_documents_example(self):
        self.assertEqual(members([3, 7, 9]), [3, 4, 5, 6] + list(range(9, 20)))

    def test_no_bounds_no_moment(self):
        self.assertEqual(members([]), [])

    def test_an_odd_number_of_bounds_never_ends(self):
        self.assertTrue(holds([3, 7, 9], 10 ** 18))
        self.assertFalse(holds([3, 7], 10 ** 18))

    def test_pairs_of_sets(self):
        for first in SETS:
            for second in SETS:
                one, other = set(members(first)), set(members(second))
                self.assertEqual(members(any_of([first, second])), sorted(one | other))
                self.assertEqual(members(both(first, second)), sorted(one & other))
                self.assertEqual(members(just_one(first, second)), sorted(one ^ other))
                self.assertEqual(members(without(first, second)), sorted(one - other))

    def test_bounds_always_rise(self):
        for first in SETS:
            for second in SETS:
                for bounds in (any_of([first, second]), both(first, second), just_one(first, second),
                               without(first, second)):
                    self.assertEqual(bounds, sorted(set(bounds)))

    def test_sets_that_touch_are_one(self):
        self.assertEqual(any_of([[3, 7], [7, 9]]), [3, 9])
        self.assertEqual(any_of([[3, 7], [9], [7, 9]]), [3])

    def test_in_at_least_so_many(self):
        self.assertEqual(covered([[0, 5], [2, 8], [4]], 2), [2, 8])
        self.assertEqual(covered([[0, 5], [2, 8], [4]], 3), [4, 5])
        self.assertEqual(covered([], 1), [])

    def test_so_far_ahead(self):
        for bounds in SETS:
            for distance in range(18):
                expected = [moment - distance for moment in members(bounds) if moment >= distance]
                found = ahead(bounds, distance)
                self.assertEqual([moment for moment in range(20 - distance) if holds(found, moment)], expected)
                self.assertEqual(found, sorted(set(found)))

    def test_ahead_of_the_moment_0(self):
        self.assertEqual(ahead([3, 7, 9], 3), [0, 4, 6])
        self.assertEqual(ahead([3, 7, 9], 4), [0, 3, 5])
        self.assertEqual(ahead([3, 7, 9], 7), [2])
        self.assertEqual(ahead([3, 7, 9], 10 ** 9), [0])
        self.assertEqual(ahead([3, 7], 7), [])

    def test_runs(self):
        self.assertEqual(runs([]), [])
        self.assertEqual(runs([0]), [(0, -1)])
        self.assertEqual(runs([3, 7]), [(3, 7)])
        self.assertEqual(runs([3, 7, 9]), [(3, 7), (9, -1)])


if __name__ == "__main__":
    unittest.main()
