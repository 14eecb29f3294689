"""The examples of the document's interface, as it prints them."""

import unittest

from example_runner import outcome

ROWS = (
    """
>>> from lastpasses.rows import is_row
>>> [is_row((170, 180, 165)), is_row([170, 180]), is_row((170, 170))]
[True, False, False]
""",
    """
>>> from lastpasses.rows import ranks
>>> ranks((20, 40, 10, 30))
(2, 4, 1, 3)
""",
    """
>>> from lastpasses.rows import ranks
>>> ranks((20, 40, True, 20))
raises InvalidRow(index=2)
""",
    """
>>> from lastpasses.rows import signs
>>> signs((2, 4, 1, 3), 3)
'0101'
""",
)

PASSES = (
    """
>>> from lastpasses.passes import single_pass
>>> [single_pass((2, 4, 1, 3), 'T'), single_pass((2, 4, 1, 3), 'S')]
[(2, 1, 3, 4), (4, 2, 3, 1)]
""",
    """
>>> from lastpasses.passes import single_pass
>>> single_pass((2, 4), 't')
raises InvalidKind(kind='t')
""",
    """
>>> from lastpasses.passes import sitters
>>> sitters((2, 4, 1, 3), 'S')
(2, 1)
""",
    """
>>> from lastpasses.passes import after
>>> after((2, 4, 1, 3), 'ST')
(2, 3, 1, 4)
""",
    """
>>> from lastpasses.passes import after
>>> after((2, 4, 1, 3), 'STs')
raises InvalidWord(index=2)
""",
)


class Examples(unittest.TestCase):
    def run_examples(self, examples):
        for example in examples:
            with self.subTest(example=example):
                found, printed = outcome(example)
                self.assertEqual(found, printed)

    def test_rows(self):
        self.run_examples(ROWS)

    def test_passes(self):
        self.run_examples(PASSES)


if __name__ == "__main__":
    unittest.main()
