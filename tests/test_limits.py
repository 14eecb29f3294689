"""The constants of lastpasses.limits."""

import unittest

from lastpasses import limits
from common import PromiseCase


class Limits(PromiseCase):
    def test_each_constant(self):
        self.assert_same(limits.MOST_PEOPLE, 12)
        self.assert_same(limits.SMALL, 8)
        self.assert_same(limits.MOST_LETTERS, 400)
        self.assert_same(limits.MOST_TIMES, 1000000000000000000000000000000)
        self.assert_same(limits.MOST_DEEDS, 2000)


if __name__ == "__main__":
    unittest.main()
