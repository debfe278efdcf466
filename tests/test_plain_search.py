"""The quicker ways of the plain search answer as its plain ones do, so that they may stand for them."""

import unittest

from plain_search import fewest, fewest_by_chains, small_groups, ways, ways_of_cutting


class PlainSearch(unittest.TestCase):
    def test_the_fewest_by_chains(self):
        for ring, marks in (*small_groups(4, 4), *small_groups(2, 5)):
            self.assertEqual(fewest_by_chains(ring, marks), fewest(ring, marks), (ring, marks))
        for marks in ((0, 1, 2, 3, 4, 5), (3, 3, 9, 8, 7, 1), (5, 0, 4, 1, 3, 2), (6, 6, 6, 1, 2, 3)):
            for ring in (0, 1):
                self.assertEqual(fewest_by_chains(ring, marks), fewest(ring, marks), (ring, marks))

    def test_the_ways_of_cutting(self):
        for ring, marks in small_groups(3, 4):
            for sweets in range(11):
                self.assertEqual(ways_of_cutting(ring, marks, sweets), ways(ring, marks, sweets), (ring, marks))


if __name__ == "__main__":
    unittest.main()
