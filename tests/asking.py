"""Asking as point 2 has it: again, with what is handed in unchanged, and with told lists spoiled."""

import copy
import unittest


def spoil(told):
    """Change each list within what was told."""
    if isinstance(told, list):
        for one in told:
            spoil(one)
        told.reverse()
        told.append("spoiled")
    if isinstance(told, tuple):
        for one in told:
            spoil(one)


class AskingCase(unittest.TestCase):
    def asked(self, ask, *handed, **named):
        """Tell what is told, and look that it is told again, whatever is done to what was told."""
        before = copy.deepcopy((handed, named))
        first = ask(*handed, **named)
        kept = copy.deepcopy(first)
        spoil(first)
        self.assertEqual((handed, named), before)
        second = ask(*handed, **named)
        self.assertEqual(second, kept)
        self.assertEqual((handed, named), before)
        return second

    def truth(self, answer, ask, *handed):
        """Look that just this truth is told."""
        self.assertIs(self.asked(ask, *handed), answer, handed)

    def whole(self, *numbers):
        """Look that these are whole numbers."""
        self.assertEqual([type(number) for number in numbers], [int] * len(numbers))
