"""Promise 3: what say answers."""

import unittest

from tests.helper import START, STATE, STATUS, play_tale, say, state, told

TEXT = """
var room = hall cellar;
var lamp = off on;
var end = no yes woe;
when "look" say "a room";
when "go down" if room is hall and lamp is on do room is cellar say "down";
when "light" if lamp is off do lamp is on say "lit";
when "win" do end is yes say "won";
when "lose" do end is woe say "lost";
when "x1 y2" say "xy";
won if end is yes;
lost if end is woe;
"""


class LengthTest(unittest.TestCase):
    def test_255_and_256_bytes(self):
        rows = play_tale(TEXT, say("x" * 255), say("x" * 256), say("x" * 300), say(" " * 255), say(" " * 256))
        self.assertEqual(rows, [[0], [-22], [-22], [0], [-22]])

    def test_blanks_count_among_the_bytes(self):
        rows = play_tale(TEXT, say("light" + " " * 251), STATE, say(" " * 250 + "light"), STATE)
        self.assertEqual(rows, [[-22], state(0, 0, 0), told("lit"), state(0, 1, 0)])

    def test_too_long_comes_before_an_end(self):
        rows = play_tale(TEXT, say("win"), say("x" * 256), say("x" * 255), START, say("lose"), say("x" * 256), say("look"))
        self.assertEqual(rows, [told("won"), [-22], [-1], [0], told("lost"), [-22], [-1]])


class EndTest(unittest.TestCase):
    def test_won(self):
        rows = play_tale(TEXT, say("win"), say("look"), say("nothing"), say("go down"), say(""), STATE)
        self.assertEqual(rows, [told("won"), [-1], [-1], [-1], [-1], state(0, 0, 1)])

    def test_lost(self):
        rows = play_tale(TEXT, say("lose"), say("light"), say("nothing"), say("go down"), say(""), STATE)
        self.assertEqual(rows, [told("lost"), [-1], [-1], [-1], [-1], state(0, 0, 2)])


class NumberTest(unittest.TestCase):
    def test_0_no_when_has_that_line(self):
        for line in ("dance", "", "loo", "looks", "look look", "godown", "go", "x1", "\"look\"", "light;"):
            self.assertEqual(play_tale(TEXT, say(line), STATE, STATUS), [[0], state(0, 0, 0), [0]], line)

    def test_1_none_can_be_done(self):
        rows = play_tale(TEXT, say("go down"), STATE, say("light"), say("light"), STATE, STATUS)
        self.assertEqual(rows, [[1], state(0, 0, 0), told("lit"), [1], state(0, 1, 0), [0]])

    def test_2_a_turn(self):
        rows = play_tale(TEXT, say("light"), say("go down"), say("look"), STATE)
        self.assertEqual(rows, [told("lit"), told("down"), told("a room"), state(1, 1, 0)])

    def test_0_and_1_tell_no_shows(self):
        text = 'var a = x y; when "go" if a is y say "";show "shown";won if a is y;'
        self.assertEqual(play_tale(text, say("go"), say("stay")), [[1], [0]])


class LineTest(unittest.TestCase):
    def same(self, line, meant, *calls):
        rows = play_tale(TEXT, *calls, say(line))
        self.assertEqual(rows[-1], meant, line)

    def test_big_letters(self):
        for line in ("LOOK", "Look", "lOOk", "looK"):
            self.same(line, told("a room"))
        self.same("X1 Y2", told("xy"))

    def test_each_letter(self):
        for byte in range(97, 123):
            text = 'var a = x y; when "' + chr(byte) + '" say "ok"; won if a is y;'
            for other in range(256):
                meant = told("ok") if other in (byte, byte - 32) else [0]
                self.assertEqual(play_tale(text, say([other])), [meant])

    def test_each_digit(self):
        for byte in range(48, 58):
            text = 'var a = x y; when "' + chr(byte) + '" say "ok"; won if a is y;'
            for other in range(256):
                self.assertEqual(play_tale(text, say([other])), [told("ok") if other == byte else [0]])

    def test_blanks(self):
        for line in (" look", "look ", "   look", "look    ", "  LOOK  "):
            self.same(line, told("a room"))
        for line in ("go down", "go  down", " go   down ", "  GO     Down   "):
            self.same(line, told("down"), say("light"))
        self.same("lo ok", [0])
        self.same("x1y2", [0])
        self.same("x1  y2", told("xy"))

    def test_other_bytes(self):
        for byte in list(range(0, 32)) + list(range(33, 48)) + list(range(58, 65)) + list(range(91, 97)) + \
                list(range(123, 256)):
            for line in ("look" + chr(byte), chr(byte) + "look", "lo" + chr(byte) + "ok", chr(byte)):
                self.same(line, [0])
            self.same("x1" + chr(byte) + "y2", [0])

    def test_a_line_feed_is_no_blank_here(self):
        for line in ("look\n", "\nlook", "x1\ny2", "x1 \ny2", "\n"):
            self.same(line, [0])


class WhenTest(unittest.TestCase):
    def test_the_first_whose_condition_holds(self):
        text = """
        var n = a b c d;
        when "go" if n is c do n is d say "to d";
        when "stay" say "stay";
        when "go" if n is b do n is c say "to c";
        when "go" if n not d do n is b say "to b";
        when "go" if n is a say "never";
        won if n is d;
        """
        rows = play_tale(text, say("go"), say("go"), say("stay"), STATE, say("go"), STATE, say("go"))
        self.assertEqual(rows, [told("to b"), told("to c"), told("stay"), state(2), told("to d"), state(3), [-1]])

    def test_one_alone_is_done(self):
        text = 'var n = a b c; when "go" if n is a do n is b say "1"; when "go" if n is b do n is c say "2"; won if n is c;'
        self.assertEqual(play_tale(text, say("go"), STATE, STATUS, say("go"), STATE, STATUS),
                         [told("1"), state(1), [0], told("2"), state(2), [1]])

    def test_all_parts_of_a_condition_are_asked(self):
        text = 'var a = n y; var b = n y; when "a" do a is y say ""; when "b" do b is y say "";' \
               'when "c" if a is y and b not n say "c"; won if a is n and a is y;'
        rows = play_tale(text, say("c"), say("a"), say("c"), say("b"), say("c"), START, say("b"), say("c"))
        self.assertEqual(rows, [[1], [2], [1], [2], told("c"), [0], [2], [1]])

    def test_changes_of_several_vars(self):
        text = 'var a = p q r; var b = p q r; var c = p q r; when "go" if a is p do c is r and a is q say "";' \
               'when "back" do a is p and b is q and c is p say ""; won if b is r;'
        self.assertEqual(play_tale(text, say("go"), STATE, say("back"), STATE), [[2], state(1, 0, 2), [2], state(0, 1, 0)])

    def test_a_condition_is_asked_ahead_of_the_changes(self):
        text = 'var a = p q; when "swap" if a is p do a is q say "q"; when "swap" if a is q do a is p say "p";' \
               'won if a is p and a is q;'
        self.assertEqual(play_tale(text, say("swap"), say("swap"), say("swap")), [told("q"), told("p"), told("q")])

    def test_16_parts_and_16_changes(self):
        names = ["v" + str(k) for k in range(16)]
        text = "".join(["var " + name + " = a b;" for name in names]) + \
            'when "go" if ' + " and ".join([name + " is a" for name in names]) + \
            " do " + " and ".join([name + " is b" for name in names]) + ' say "ok"; won if v0 is a and v0 is b;'
        self.assertEqual(play_tale(text, say("go"), STATE, say("go")), [told("ok"), state(*[1] * 16), [1]])

    def test_the_last_of_128_whens(self):
        text = "var a = x y;" + "".join(['when "w' + str(k) + '" say "' + str(k) + '";' for k in range(128)]) + "won if a is y;"
        self.assertEqual(play_tale(text, say("w0"), say("w127"), say("w128")), [told("0"), told("127"), [0]])

    def test_a_line_of_40_bytes(self):
        text = 'var a = x y; when "' + "b" * 40 + '" say "ok"; won if a is y;'
        self.assertEqual(play_tale(text, say("B" * 40), say("b" * 39), say("b" * 41)), [told("ok"), [0], [0]])


class ShowTest(unittest.TestCase):
    def test_in_order_by_what_holds_then(self):
        text = """
        var lamp = off on;
        show "dark" if lamp is off;
        show "here";
        when "light" do lamp is on say "lit";
        show "bright" if lamp is on;
        when "dim" do lamp is off say "dimmed";
        show "there" if lamp not off and lamp is on;
        won if lamp is on and lamp is off;
        """
        rows = play_tale(text, say("light"), say("dim"), say("dim"))
        self.assertEqual(rows, [told("lit\nhere\nbright\nthere"), told("dimmed\ndark\nhere"), told("dimmed\ndark\nhere")])

    def test_a_turn_that_ends_it_is_told_whole(self):
        text = 'var a = x y z; when "win" do a is y say "w"; when "lose" do a is z say "l"; show "s" if a not x;' \
               'won if a is y; lost if a is z;'
        self.assertEqual(play_tale(text, say("win"), START, say("lose")), [told("w\ns"), [0], told("l\ns")])

    def test_64_shows_of_255_bytes(self):
        text = 'var a = x y; when "go" say "' + "s" * 255 + '";' + ('show "' + "t" * 255 + '";') * 64 + "won if a is y;"
        self.assertEqual(play_tale(text, say("go")), [told("s" * 255 + ("\n" + "t" * 255) * 64)])

    def test_each_byte_of_a_string_is_told(self):
        signs = "".join([chr(byte) for byte in range(32, 127) if byte != 34])
        text = 'var a = x y; when "go" say "' + signs + '"; show "' + signs + '"; won if a is y;'
        self.assertEqual(play_tale(text, say("go")), [told(signs + "\n" + signs)])


if __name__ == "__main__":
    unittest.main()
