"""The examples of the document, as far as they have landed."""

import unittest

from enoughchecks.ways import ways
from enoughchecks.webs import Web, between, passed


class Examples(unittest.TestCase):
    def test_e01(self):
        t = Web(4, ((0, 1), (0, 2), (1, 3), (2, 3), (1, 2)))
        self.assertEqual(ways(t, 0, 3), [(0, 2), (0, 4, 3), (1, 3)])
        self.assertEqual(passed(t, (0, 4, 3)), (0, 1, 2, 3))
        self.assertEqual(between(t, 0, 3), (1, 2))


if __name__ == "__main__":
    unittest.main()
