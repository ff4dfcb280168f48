"""Promise 4: what status answers."""

import unittest

from tests.helper import START, STATUS, play_tale, say, told

TEXT = """
var a = p q r;
var b = p q r;
when "a q" do a is q say "";
when "a r" do a is r say "";
when "b q" do b is q say "";
when "b r" do b is r say "";
when "both" do a is q and b is q say "both";
won if a is q;
won if a is r and b not p;
lost if b is q;
lost if a is r and b is r;
"""


class StatusTest(unittest.TestCase):
    def test_0_it_goes_on(self):
        self.assertEqual(play_tale(TEXT, STATUS, say("a r"), STATUS), [[0], [2], [0]])

    def test_1_won(self):
        self.assertEqual(play_tale(TEXT, say("a q"), STATUS, STATUS), [[2], [1], [1]])

    def test_2_lost(self):
        self.assertEqual(play_tale(TEXT, say("b q"), STATUS, STATUS), [[2], [2], [2]])

    def test_lost_and_won_at_once_is_lost(self):
        self.assertEqual(play_tale(TEXT, say("both"), STATUS), [told("both"), [2]])
        self.assertEqual(play_tale(TEXT, say("a r"), say("b r"), STATUS), [[2], [2], [2]])

    def test_each_won_and_each_lost_is_asked(self):
        for word, number in (("won", 1), ("lost", 2)):
            choices = ["c" + str(k) for k in range(16)]
            text = "var n = " + " ".join(choices) + ";" + \
                "".join(['when "' + choice + '" do n is ' + choice + ' say "";' for choice in choices]) + \
                "won if n is c0 and n is c1;" + "".join([word + " if n is " + choice + ";" for choice in choices[1:]])
            for choice in choices[1:]:
                self.assertEqual(play_tale(text, STATUS, say(choice), STATUS, say("c0"), START, STATUS),
                                 [[0], [2], [number], [-1], [0], [0]])

    def test_all_parts_must_hold(self):
        text = 'var a = p q; var b = p q; when "a" do a is q say ""; when "b" do b is q say "";' \
               'won if a is q and b is q;'
        self.assertEqual(play_tale(text, say("a"), STATUS, say("b"), STATUS), [[2], [0], [2], [1]])


if __name__ == "__main__":
    unittest.main()
