"""Tests of the session of point 1, word for word, and of the examples in README.md."""

import doctest
import unittest
from pathlib import Path

README = Path(__file__).resolve().parent.parent / "README.md"

SESSION = """
>>> from quotaboard.boards import Board
>>> from quotaboard.clashes import clashes
>>> from quotaboard.quotas import verdict, all_quotas
>>> from quotaboard.rules import Rule
>>> board = Board('000', '010', '100', '111')
>>> '111' in board
True
>>> list(clashes(board))
['-01', '0-1', '110']
>>> verdict(board, 3, (2, 2, 2))
('110', ('010', '100', '111'))
>>> Rule(board, 3, (2, 2, 2))(('010', '100', '111'))
'110'
>>> list(all_quotas(board, 3))
[(3, 3, 3)]
"""


class Examples(unittest.TestCase):
    def run_examples(self, text, name, least):
        """Run the examples in the text, and expect what it says."""
        test = doctest.DocTestParser().get_doctest(text, {}, name, None, 0)
        told = []
        found = doctest.DocTestRunner(verbose=False).run(test, out=told.append)
        self.assertEqual(found.failed, 0, "".join(told))
        self.assertGreaterEqual(found.attempted, least)

    def test_session_of_the_document(self):
        self.run_examples(SESSION, "session", 10)

    def test_examples_of_the_readme(self):
        text = README.read_text(encoding="utf-8").replace("```", "")
        self.run_examples(text, "README.md", 20)


if __name__ == "__main__":
    unittest.main()
