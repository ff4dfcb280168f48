"""Promise 5: what state answers."""

import unittest

from tests.helper import START, STATE, play_tale, say, state


class StateTest(unittest.TestCase):
    def test_1_var(self):
        text = 'var a = p q r; when "q" do a is q say ""; when "r" do a is r say ""; won if a is q and a is r;'
        rows = play_tale(text, STATE, say("q"), STATE, say("r"), STATE)
        self.assertEqual(rows, [[1] + [0] * 24, [2], [1, 1] + [0] * 23, [2], [1, 2] + [0] * 23])

    def test_24_vars_in_order(self):
        names = ["v" + str(24 - k) for k in range(24)]
        choices = " ".join(["c" + str(k) for k in range(16)])
        text = "".join(["var " + name + " = " + choices + ";" for name in names]) + \
            "".join(['when "' + name + '" do ' + name + " is c" + str(k % 16) + ' say "";' for k, name in enumerate(names)]) + \
            "won if v1 is c0 and v1 is c1;"
        rows = play_tale(text, STATE, *[say(name) for name in names], STATE, START, STATE)
        self.assertEqual(rows[0], [24] + [0] * 24)
        self.assertEqual(rows[-3:], [[24] + [k % 16 for k in range(24)], [0], [24] + [0] * 24])

    def test_each_count_of_vars_has_24_numbers_behind(self):
        for count in range(1, 25):
            names = ["v" + str(k) for k in range(count)]
            text = "".join(["var " + name + " = a b;" for name in names]) + \
                "".join(['when "' + name + '" do ' + name + ' is b say "";' for name in names]) + \
                "won if v0 is a and v0 is b;"
            rows = play_tale(text, *[say(name) for name in names], STATE)
            self.assertEqual(rows[-1], state(*[1] * count))
            self.assertEqual(len(rows[-1]), 25)

    def test_state_changes_nothing(self):
        text = 'var a = p q; when "q" do a is q say ""; won if a is p and a is q;'
        self.assertEqual(play_tale(text, STATE, STATE, say("q"), STATE, STATE),
                         [state(0), state(0), [2], state(1), state(1)])

    def test_state_behind_an_end(self):
        text = 'var a = p q; when "q" do a is q say ""; won if a is q;'
        self.assertEqual(play_tale(text, say("q"), say("q"), STATE), [[2], [-1], state(1)])


if __name__ == "__main__":
    unittest.main()
