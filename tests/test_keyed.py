import unittest

from knownwhen.keyed import gathered, keys_of_either, unlike


class Keyed(unittest.TestCase):
    def test_keys_of_either_once_each(self):
        self.assertEqual(keys_of_either({1: [0], 2: [3]}, {3: [1], 2: [0]}), [1, 2, 3])

    def test_moments_of_a_key_are_put_together(self):
        self.assertEqual(gathered([(1, [0, 3]), (2, [5]), (1, [3, 6]), (1, [8])]), {1: [0, 6, 8], 2: [5]})

    def test_a_key_without_moments_is_not_kept(self):
        self.assertEqual(gathered([(1, []), (2, [5]), (1, [])]), {2: [5]})
        self.assertEqual(gathered([]), {})

    def test_unlike(self):
        self.assertEqual(unlike({}, {}), [])
        self.assertEqual(unlike({1: [0]}, {1: [0]}), [])
        self.assertEqual(unlike({1: [0, 9]}, {1: [0, 4], 2: [4, 6]}), [4, 9])
        self.assertEqual(unlike({}, {1: [3, 7]}), [3, 7])
        self.assertEqual(unlike({1: [3, 7]}, {}), [3, 7])

    def test_what_is_handed_in_stays(self):
        first, second, pairs = {1: [0, 9]}, {1: [4], 2: [0, 4]}, [(1, [0, 3]), (1, [3])]
        unlike(first, second)
        gathered(pairs)
        self.assertEqual((first, second, pairs), ({1: [0, 9]}, {1: [4], 2: [0, 4]}, [(1, [0, 3]), (1, [3])]))


if __name__ == "__main__":
    unittest.main()
