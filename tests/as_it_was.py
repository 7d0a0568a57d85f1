"""For tests of calls that leave all as it was: questions, and calls that are refused."""

import unittest

from tests.lines import again, ask_behind, back, everything, place, road, state, village


class AsItWas(unittest.TestCase):
    def assert_as_it_was(self, before, villages, voters, call, *expected):
        """The call answers what is expected, and all is as it was."""
        change = village(0, 7) if villages < 12 else road(11, 777)
        questions = everything(villages, voters) + [state(), again(), state(), place(villages), place(11)]
        # With none to be done again, and with one that the call may not take away.
        for valley in (before, before + [change, back()]):
            answered = ask_behind(valley, call, *questions)
            self.assertEqual(answered[0], list(expected))
            self.assertEqual(answered[1:], ask_behind(valley, *questions))
