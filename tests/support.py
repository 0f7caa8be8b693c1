"""What the tests share: answers held to their very kinds, refusals to their very class."""

import unittest


class Case(unittest.TestCase):
    def just(self, told, expected):
        # The written form parts True from 1, a list from a tuple, and either from its own subclasses.
        self.assertEqual(repr(told), repr(expected))

    def refused(self, error, function, *arguments):
        try:
            told = function(*arguments)
        except Exception as raised:
            self.assertIs(type(raised), error, f"{arguments!r:.200} raised {raised!r:.200}")
        else:
            self.fail(f"{arguments!r:.200} told {told!r:.200}, not {error.__name__}")


def rows(*lines):
    return "\n".join(lines)
