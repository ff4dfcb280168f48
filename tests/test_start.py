"""Promise 2: start makes it as at first."""

import unittest

from tests.helper import LAMP, START, STATE, STATUS, play, play_tale, read, say, state, told

TEXT = """
var room = hall cellar attic;
var lamp = off on;
when "down" if room is hall do room is cellar say "down";
when "light" do lamp is on say "lit";
when "up" do room is attic say "up";
when "fall" do room is cellar and lamp is off say "fell";
won if room is attic;
lost if room is cellar and lamp is off;
"""


class StartTest(unittest.TestCase):
    def test_at_first_each_var_has_its_first_value(self):
        self.assertEqual(play_tale(TEXT, STATE, STATUS), [state(0, 0), [0]])

    def test_in_the_middle(self):
        rows = play_tale(TEXT, say("light"), say("down"), STATE, START, STATE, STATUS, say("down"), STATUS)
        self.assertEqual(rows, [told("lit"), told("down"), state(1, 1), [0], state(0, 0), [0], told("down"), [2]])

    def test_behind_a_won_end(self):
        rows = play_tale(TEXT, say("up"), STATUS, START, STATUS, STATE, say("light"))
        self.assertEqual(rows, [told("up"), [1], [0], [0], state(0, 0), told("lit")])

    def test_behind_a_lost_end(self):
        rows = play_tale(TEXT, say("fall"), STATUS, START, STATUS, STATE, say("light"))
        self.assertEqual(rows, [told("fell"), [2], [0], [0], state(0, 0), told("lit")])

    def test_several_in_a_row(self):
        self.assertEqual(play_tale(TEXT, START, START, say("light"), START, START, STATE),
                         [[0], [0], told("lit"), [0], [0], state(0, 0)])

    def test_behind_another_read(self):
        rows = play_tale(TEXT, say("light"), read(LAMP), START, STATE, say("light"), say("go"), STATE, STATUS,
                         read(TEXT), START, STATE, say("go"), say("light"), STATE)
        self.assertEqual(rows, [told("lit"), [0], [0], state(0), [0], told("ok"), state(1), [1],
                                [0], [0], state(0, 0), [0], told("lit"), state(0, 1)])

    def test_behind_two_reads(self):
        self.assertEqual(play(read(TEXT), read(LAMP), START, STATE), [[0], [0], [0], state(0)])

    def test_behind_a_read_of_the_same_text(self):
        self.assertEqual(play_tale(LAMP, say("go"), read(LAMP), START, STATE, STATUS),
                         [told("ok"), [0], [0], state(0), [0]])


if __name__ == "__main__":
    unittest.main()
