"""Point 31, the sentence on the two reaches."""

import unittest

from saidatonce.reach import ring_reach, walk_reach


class ReachTest(unittest.TestCase):
    def test_without_batches(self):
        self.assertEqual(walk_reach(()), 1)
        self.assertEqual(ring_reach(()), 0)

    def test_one_batch(self):
        for size in (1, 2, 3, 99, 100):
            self.assertEqual(walk_reach((size,)), size + 1)
            self.assertEqual(ring_reach((size,)), size)

    def test_several_batches(self):
        self.assertEqual(walk_reach((1, 2)), 6)
        self.assertEqual(ring_reach((1, 2)), 3)
        self.assertEqual(walk_reach((2, 1)), 6)
        self.assertEqual(ring_reach((2, 1)), 4)
        self.assertEqual(walk_reach((3, 1, 4, 1, 5)), 4 * 2 * 5 * 2 * 6)
        self.assertEqual(ring_reach((3, 1, 4, 1, 5)), 3 * 2 * 5 * 2 * 6)

    def test_one_by_one(self):
        for many in range(61):
            self.assertEqual(walk_reach((1,) * many), 2 ** many)
            self.assertEqual(ring_reach((1,) * many), 2 ** many // 2)

    def test_the_most_batches(self):
        self.assertEqual(walk_reach((100,) * 60), 101 ** 60)
        self.assertEqual(ring_reach((100,) * 60), 100 * 101 ** 59)

    def test_the_ring_reach_is_the_walk_reach_less_its_quotient(self):
        for batches in ((4,), (2, 7), (7, 2), (1, 1, 9), (100, 3, 1)):
            less = walk_reach(batches) // (batches[0] + 1)
            self.assertEqual(ring_reach(batches), walk_reach(batches) - less)


if __name__ == "__main__":
    unittest.main()
