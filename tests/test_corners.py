"""The corners that the document lists."""

import unittest

from tests.helper import START, STATE, STATUS, play_tale, say, state, told


class CornerTest(unittest.TestCase):
    def test_a_var_none_asks_for(self):
        text = 'var idle = p q; var a = x y; when "go" do a is y say "ok"; won if a is y;'
        self.assertEqual(play_tale(text, STATE, say("go"), STATE, STATUS), [state(0, 0), told("ok"), state(0, 1), [1]])

    def test_two_whens_of_one_string_that_both_hold(self):
        text = 'var a = x y z; when "go" if a is x do a is y say "first"; when "go" if a not z do a is z say "second";' \
               'won if a is z;'
        self.assertEqual(play_tale(text, say("go"), STATE, say("go"), STATE),
                         [told("first"), state(1), told("second"), state(2)])
        text = 'var a = x y; when "go" say "first"; when "go" do a is y say "second"; won if a is y;'
        self.assertEqual(play_tale(text, say("go"), say("go"), STATE), [told("first"), told("first"), state(0)])

    def test_a_change_to_what_is_so_already(self):
        text = 'var a = x y; when "go" do a is x say "ok"; show "x" if a is x; won if a is y;'
        self.assertEqual(play_tale(text, say("go"), STATE, STATUS), [told("ok\nx"), state(0), [0]])

    def test_a_tale_that_is_won_at_first(self):
        text = 'var a = x y; when "go" do a is y say "ok"; won if a is x;'
        self.assertEqual(play_tale(text, STATUS, say("go"), say("stay"), say("x" * 256), STATE, START, STATUS, say("go")),
                         [[1], [-1], [-1], [-22], state(0), [0], [1], [-1]])

    def test_a_tale_that_is_lost_at_first(self):
        text = 'var a = x y; when "go" do a is y say "ok"; won if a is y; lost if a not y;'
        self.assertEqual(play_tale(text, STATUS, say("go"), STATE), [[2], [-1], state(0)])

    def test_lost_and_won_at_once(self):
        for ends in ("won if a is y; lost if a is y;", "lost if a is y; won if a is y;"):
            text = 'var a = x y; when "go" do a is y say "ok";' + ends
            self.assertEqual(play_tale(text, STATUS, say("go"), STATUS, say("go")), [[0], told("ok"), [2], [-1]])
        text = 'var a = x y; when "go" say "ok"; won if a is x; lost if a is x;'
        self.assertEqual(play_tale(text, STATUS, say("go")), [[2], [-1]])

    def test_a_line_of_blanks(self):
        text = 'var a = x y; when "go" say "ok"; won if a is y;'
        self.assertEqual(play_tale(text, say(""), say(" "), say("  "), say(" " * 255)), [[0]] * 4)

    def test_a_string_of_no_bytes_told(self):
        text = 'var a = x y; when "go" do a is y say ""; won if a is x and a is y;'
        self.assertEqual(play_tale(text, say("go"), STATE), [[2], state(1)])
        self.assertEqual(play_tale(text + 'show "";', say("go")), [[2, 10]])
        self.assertEqual(play_tale(text + 'show ""; show "s"; show "";', say("go")), [told("\n\ns\n")])

    def test_names_that_are_also_what_is_typed(self):
        text = 'var go = stay go; when "go" if go is stay do go is go say "go"; when "stay" do go is stay say "stay";' \
               'when "var" say "var"; when "if" say "if"; won if go is go and go is stay;'
        self.assertEqual(play_tale(text, say("go"), STATE, say("go"), say("stay"), STATE, say("var"), say("IF")),
                         [told("go"), state(1), [1], told("stay"), state(0), told("var"), told("if")])

    def test_a_when_that_asks_for_the_same_twice(self):
        text = 'var a = x y; when "go" if a is x and a is x do a is y say "ok"; when "no" if a not x and a not x say "no";' \
               'when "never" if a is x and a not x say "?"; won if a is x and a is y;'
        self.assertEqual(play_tale(text, say("no"), say("never"), say("go"), say("go"), say("no"), say("never")),
                         [[1], [1], told("ok"), [1], told("no"), [1]])


if __name__ == "__main__":
    unittest.main()
