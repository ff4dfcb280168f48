"""Promise 1: what read answers."""

import unittest

from tests.helper import LAMP, START, STATE, STATUS, play, play_tale, read, read_answer, say, state, told

VAR = 'var lamp = off on;'
WHEN = 'when "go" do lamp is on say "ok";'
WON = 'won if lamp is on;'
KEPT_WORDS = "var when show won lost if do say is not and".split()


def tale(*sentences):
    return "\n".join(sentences)


def padded(text, size):
    return text + " " * (size - len(text))


def names(count):
    return ["v" + str(k) for k in range(count)]


class ReadCase(unittest.TestCase):
    def good(self, *texts):
        for text in texts:
            with self.subTest(good=text[:200]):
                self.assertEqual(read_answer(text), 0)

    def bad(self, *texts):
        for text in texts:
            with self.subTest(bad=text[:200]):
                self.assertEqual(read_answer(text), -71)


class LengthTest(ReadCase):
    def test_a_tale_is_read(self):
        self.good(LAMP, tale(VAR, WHEN, WON))

    def test_24576_bytes_are_read(self):
        self.good(padded(LAMP, 24576))

    def test_one_byte_more_is_too_long(self):
        self.assertEqual(read_answer(padded(LAMP, 24577)), -22)

    def test_too_long_comes_before_no_tale(self):
        for text in ("?" * 24577, [0] * 25000, [255] * 24577, "x" * 24577):
            self.assertEqual(read_answer(text), -22)

    def test_no_tale_of_24576_bytes(self):
        self.bad("?" * 24576, padded("", 24576))

    def test_an_empty_text_is_no_tale(self):
        self.bad("", " ", "\n", ";")


class ByteTest(ReadCase):
    def test_bytes_the_text_may_not_have(self):
        for byte in list(range(0, 10)) + list(range(11, 32)) + list(range(127, 256)):
            sign = chr(byte)
            self.bad(LAMP + sign, sign + LAMP, LAMP.replace(" off", sign + "off"), LAMP.replace("ok", sign))

    def test_signs_that_stand_in_strings_alone(self):
        for byte in range(32, 127):
            sign = chr(byte)
            if sign == '"':
                continue
            self.good(LAMP.replace("ok", sign))
            if sign not in " ;=" and not sign.islower() and not sign.isdigit():
                self.bad(LAMP + sign, LAMP.replace("off", sign), LAMP.replace("off", "o" + sign), sign + LAMP)

    def test_a_line_feed_in_a_string(self):
        self.bad(LAMP.replace("ok", "o\nk"), LAMP.replace("ok", "\n"))

    def test_blanks_of_both_kinds(self):
        self.good(LAMP.replace(" ", "\n"), LAMP.replace(" ", " \n\n "), "\n \n" + LAMP + " \n ")
        self.good(tale("var\nlamp\n=\noff\non\n;", WHEN, WON))

    def test_many_blanks(self):
        self.good(LAMP.replace(" ", " " * 300).replace(";", " " * 300 + ";"))

    def test_no_blanks_where_words_part_by_themselves(self):
        self.good('var lamp=off on;when"go"if lamp is off do lamp is on say"ok";show"x"if lamp is on;won if lamp is on;')
        self.good('var a=b c;when"go"say"ok";won if a is b;lost if a is c;')

    def test_names_without_a_blank_between_are_one(self):
        self.bad(LAMP.replace("var lamp", "varlamp"), LAMP.replace("off on", "offon"))
        self.bad(LAMP.replace("lamp is on say", "lamp is onsay"), LAMP.replace("won if", "wonif"))


class NameTest(ReadCase):
    def test_a_var_of_1_to_12_signs(self):
        self.good(LAMP.replace("lamp", "l"), LAMP.replace("lamp", "abcdefghijkl"), LAMP.replace("lamp", "a23456789012"))

    def test_a_var_of_13_signs(self):
        self.bad(LAMP.replace("lamp", "abcdefghijklm"), LAMP.replace("lamp", "a234567890123"))

    def test_a_value_of_12_and_13_signs(self):
        self.good(LAMP.replace("off", "abcdefghijkl"))
        self.bad(LAMP.replace("off", "abcdefghijklm"), LAMP.replace("off", "a" * 24))

    def test_a_name_goes_as_far_as_it_goes(self):
        self.bad(LAMP.replace("off on", "abcdefghijklon"), LAMP.replace("off on", "off1on"))

    def test_letters_and_digits_at_their_edges(self):
        self.good(LAMP.replace("lamp", "az09"), LAMP.replace("lamp", "z"), LAMP.replace("off", "a0z9"))

    def test_a_name_begins_with_a_letter(self):
        self.bad(LAMP.replace("lamp", "1lamp"), LAMP.replace("lamp", "1"), LAMP.replace("off", "0"))

    def test_big_letters_are_in_no_name(self):
        self.bad(LAMP.replace("lamp", "Lamp"), LAMP.replace("lamp", "lAMP"), LAMP.replace("off", "ofF"))
        self.bad(LAMP.replace("var", "VAR"), LAMP.replace("won", "Won"))

    def test_a_name_that_differs_in_its_last_sign(self):
        rows = play_tale('var abcdefghijk1 = a b; var abcdefghijk2 = a b; when "go" do abcdefghijk2 is b say "";'
                         'won if abcdefghijk1 is b;', say("go"), STATE)
        self.assertEqual(rows, [[2], state(0, 1)])


class StringTest(ReadCase):
    def test_a_string_of_0_and_255_bytes(self):
        self.good(LAMP.replace("ok", ""), LAMP.replace("ok", "x" * 255), LAMP + 'show "' + "y" * 255 + '";')

    def test_a_string_of_256_bytes(self):
        self.bad(LAMP.replace("ok", "x" * 256), LAMP + 'show "' + "y" * 256 + '";')

    def test_a_string_with_no_end(self):
        self.bad(LAMP + '"', LAMP + 'show "', LAMP + 'show "x', LAMP.replace('ok"', "ok"), LAMP.replace('"ok', "ok"))

    def test_a_string_holds_words_and_signs(self):
        rows = play_tale(LAMP.replace("ok", "; = var won if"), say("go"))
        self.assertEqual(rows, [told("; = var won if")])

    def test_a_string_is_no_name(self):
        self.bad(LAMP.replace("lamp", '"lamp"'), LAMP.replace("off", '"off"'), LAMP.replace("var", '"var"'))
        self.bad(LAMP.replace("say", '"say"'), LAMP.replace("=", '"="'), LAMP + 'show "x" ";"')
        self.bad(LAMP.replace("won if lamp is on", 'won if lamp is "on"'), LAMP.replace("won if", 'won "if"'))

    def test_a_name_is_no_string(self):
        self.bad(LAMP.replace('"go"', "go"), LAMP.replace('"ok"', "ok"), LAMP + "show x;")


class SentenceTest(ReadCase):
    def test_others_in_any_order(self):
        show, lost = 'show "x";', "lost if lamp is off;"
        self.good(tale(VAR, WHEN, show, WON, lost), tale(VAR, lost, WON, show, WHEN), tale(VAR, WON, WHEN, lost, show))
        self.good(tale(VAR, show, WHEN, show, WHEN, WON, lost, WON, lost))

    def test_a_sentence_with_nothing_behind_it(self):
        self.bad(LAMP[:-1], tale(VAR[:-1], WHEN, WON), tale(VAR, WHEN[:-1], WON), tale(VAR, WON[:-1], WHEN))
        self.bad(tale(VAR, WHEN, WON, 'show "x"'), tale(VAR, 'show "x"', WHEN, WON))
        self.bad(tale(VAR, WHEN, WON, "lost if lamp is on"), tale(VAR, "lost if lamp is on", WHEN, WON))

    def test_a_sentence_of_no_words(self):
        self.bad(LAMP + ";", ";" + LAMP, tale(VAR, ";", WHEN, WON), tale(VAR, WHEN, ";", WON), LAMP.replace(";", ";;"))

    def test_a_var_behind_another_sentence(self):
        self.bad(LAMP + "var door = a b;", tale(VAR, WHEN, "var door = a b;", WON))
        self.bad(tale(VAR, 'show "x";', "var door = a b;", WHEN, WON), tale(VAR, WON, "var door = a b;", WHEN))
        self.bad(tale(VAR, "lost if lamp is on;", "var door = a b;", WHEN, WON), tale(WHEN, WON, VAR))

    def test_another_word_first(self):
        self.bad(LAMP + "lamp;", LAMP + "if lamp is on;", LAMP + "= ;", LAMP + '"x";', LAMP + "and lamp is on;")
        self.bad(LAMP + "lamp is on;", LAMP + 'say "x";', LAMP + "do lamp is on;")

    def test_each_cut_of_a_tale_ahead_of_its_end(self):
        text = LAMP + 'show "x" if lamp not on and lamp is off; lost if lamp is on and lamp not on;'
        whole = (len(LAMP), text.index(" lost"), len(text))
        for size in range(len(text) + 1):
            seen = read_answer(text[:size])
            done = size in whole or text[:size].rstrip() in (LAMP, text[:text.index(" lost")])
            self.assertEqual(seen, 0 if done else -71, text[:size])


class VarTest(ReadCase):
    def test_each_missing_or_added_part(self):
        for sentence in ("var = off on;", "var lamp off on;", "lamp = off on;", "var lamp;", "var lamp =;", "var;",
                         "var lamp = = off on;", "var lamp = off = on;", "var lamp lamp = off on;",
                         'var lamp = off on "x";', "var var lamp = off on;", "var lamp = off on", "var lamp is off on;",
                         "var lamp = off on =;", '"var" lamp = off on;', "var = lamp = off on;"):
            self.bad(tale(sentence, WHEN, WON))

    def test_a_sign_is_no_name(self):
        self.bad("var ; = a b;" + LAMP, "var = = a b;" + LAMP, "var lamp = off = on;" + WHEN + WON)

    def test_a_name_that_is_taken(self):
        self.bad(tale(VAR, VAR, WHEN, WON), tale(VAR, "var lamp = a b;", WHEN, WON))
        self.bad(tale("var door = a b;", VAR, "var door = c d;", WHEN, WON))

    def test_a_name_that_is_a_word_of_the_sentences(self):
        for word in KEPT_WORDS:
            self.bad(tale(VAR, "var " + word + " = a b;", WHEN, WON), LAMP.replace("lamp", word))

    def test_a_name_near_a_word_of_the_sentences(self):
        for word in KEPT_WORDS:
            self.good(LAMP.replace("lamp", word + "x"), LAMP.replace("lamp", "x" + word), LAMP.replace("lamp", word + "1"))

    def test_a_value_may_be_a_word_of_the_sentences(self):
        for word in KEPT_WORDS:
            self.good(tale("var lamp = " + word + " on;", 'when "go" if lamp is ' + word + " and lamp not " + word +
                           " do lamp is " + word + ' say "";', "won if lamp is on;"))

    def test_a_value_may_be_a_var_and_a_value_of_several(self):
        self.good(tale("var lamp = lamp door;", "var door = lamp door;", 'when "go" do lamp is lamp say "";',
                       "won if door is lamp;"))

    def test_how_many_values(self):
        for count in range(0, 19):
            text = 'var lamp = ' + " ".join(names(count)) + ';when "go" say "";won if lamp is v0;'
            self.assertEqual(read_answer(text), 0 if 2 <= count <= 16 else -71, count)

    def test_values_that_are_not_different(self):
        self.bad(tale("var lamp = off on off;", WHEN, WON), tale("var lamp = on on;", WHEN, WON))
        self.bad(tale("var lamp = off a b c on on;", WHEN, WON))

    def test_how_many_vars(self):
        for count in (0, 1, 2, 23, 24, 25, 26):
            text = tale(*["var " + name + " = off on;" for name in names(count)], 'when "go" say "";', "won if v0 is on;")
            self.assertEqual(read_answer(text), 0 if 1 <= count <= 24 else -71, count)


class CountTest(ReadCase):
    def counts(self, sentence, base, least, most):
        for count in (0, 1, 2, 15, 16, 17, 63, 64, 65, 127, 128, 129, 130):
            text = tale(base, *[sentence] * count)
            self.assertEqual(read_answer(text), 0 if least <= count <= most else -71, (sentence, count))

    def test_how_many_whens(self):
        self.counts(WHEN, tale(VAR, WON), 1, 128)

    def test_how_many_shows(self):
        self.counts('show "x";', LAMP, 0, 64)

    def test_how_many_wons(self):
        self.counts(WON, tale(VAR, WHEN), 1, 16)

    def test_how_many_losts(self):
        self.counts("lost if lamp is on;", LAMP, 0, 16)

    def test_all_at_their_most(self):
        text = tale(*["var " + name + " = a b;" for name in names(24)], *['when "go" say "";'] * 128,
                    *['show "";'] * 64, *["won if v0 is b;"] * 16, *["lost if v1 is b;"] * 16)
        self.good(text)


class WhenTest(ReadCase):
    def test_what_may_be_missing(self):
        self.good(tale(VAR, WON, 'when "go" say "";'), tale(VAR, WON, 'when "go" if lamp is on say "";'))
        self.good(tale(VAR, WON, 'when "go" do lamp is on say "";'))
        self.good(tale(VAR, WON, 'when "go" if lamp is on do lamp is on say "";'))

    def test_each_missing_or_added_part(self):
        for sentence in ('when;', 'when "go";', 'when say "x";', 'when "go" say;', 'when "go" "x";', '"go" say "x";',
                         'when "go" if say "x";', 'when "go" do say "x";', 'when "go" lamp is on say "x";',
                         'when "go" do lamp is on if lamp is on say "x";', 'when "go" say "x" "y";',
                         'when "go" "stay" say "x";', 'when "go" if lamp is on if lamp is on say "x";',
                         'when "go" do lamp is on do lamp is on say "x";', 'when "go" say "x" say "y";',
                         'when "go" say "x" if lamp is on;', 'when "go" say "x" do lamp is on;', 'when when "go" say "x";',
                         'when "go" if lamp is on;', 'when "go" do lamp is on;', 'when = "go" say "x";',
                         'when "go" say x;', 'when go say "x";', 'when "go" if do lamp is on say "x";',
                         'when "go" if lamp is on do say "x";', 'when "go" say lamp;'):
            self.bad(tale(LAMP, sentence), tale(VAR, sentence, WON))

    def test_what_is_typed_has_1_to_40_bytes(self):
        for count in (0, 1, 2, 39, 40, 41, 42, 255):
            text = tale(VAR, WON, 'when "' + "x" * count + '" say "";')
            self.assertEqual(read_answer(text), 0 if 1 <= count <= 40 else -71, count)

    def test_blanks_in_what_is_typed(self):
        for line in (" ", "  ", " go", "go ", "go  on", " go on ", "a b  c", "a   b", " " * 40):
            self.bad(tale(VAR, WON, 'when "' + line + '" say "";'))
        self.good(tale(VAR, WON, 'when "a b c d" say "";'), tale(VAR, WON, 'when "go 2 1st room" say "";'))

    def test_signs_in_what_is_typed(self):
        for byte in range(32, 127):
            sign = chr(byte)
            good = sign == " " or sign.isdigit() or sign.islower()
            if sign != '"':
                text = tale(VAR, WON, 'when "a' + sign + 'b" say "";')
                self.assertEqual(read_answer(text), 0 if good else -71, sign)
        self.bad(tale(VAR, WON, 'when "Go" say "";'), tale(VAR, WON, 'when "GO" say "";'), tale(VAR, WON, 'when "g\no" say "";'))


class ShowTest(ReadCase):
    def test_if_may_be_missing(self):
        self.good(LAMP + 'show "x";', LAMP + 'show "";', LAMP + 'show "x" if lamp is on;')

    def test_each_missing_or_added_part(self):
        for sentence in ("show;", "show if lamp is on;", 'show "x" if;', 'show "x" lamp is on;', 'show "x" "y";',
                         'show "x" if lamp is on if lamp is on;', 'show "x" do lamp is on;', 'show "x" say "y";',
                         'show "x" if lamp is on "y";', "show x;", 'show show "x";', 'show say "x";', 'show = "x";',
                         'show "x" if lamp is on do lamp is on;', 'show "x" if lamp is on say "y";'):
            self.bad(tale(LAMP, sentence), tale(VAR, sentence, WHEN, WON))


class EndTest(ReadCase):
    def test_each_missing_or_added_part(self):
        for word in ("won", "lost"):
            for rest in (";", " if;", " lamp is on;", ' "x" if lamp is on;', ' if lamp is on "x";', ' if lamp is on say "x";',
                         " if lamp is on if lamp is on;", " if lamp is on do lamp is on;", " won if lamp is on;",
                         " = lamp is on;", " do lamp is on;", " if if lamp is on;", ' "x";'):
                self.bad(tale(LAMP, word + rest), tale(VAR, word + rest, WHEN, WON))


class ConditionTest(ReadCase):
    PLACES = ('when "x" if {} say "";', 'show "x" if {};', "won if {};", "lost if {};")

    def each_place(self, condition):
        return [tale(LAMP, place.format(condition)) for place in self.PLACES]

    def test_is_and_not(self):
        for condition in ("lamp is on", "lamp not on", "lamp is on and lamp not off", "lamp is on and lamp is off"):
            self.good(*self.each_place(condition))

    def test_each_missing_or_added_part(self):
        for condition in ("lamp", "lamp is", "is on", "lamp on", "on", "lamp is not on", "lamp not is on", "not lamp is on",
                          "lamp is on and", "and lamp is on", "lamp is on lamp is off", "lamp is on and and lamp is off",
                          "lamp is on off", "lamp = on", "lamp is on = off", "lamp is =", 'lamp is "on"', '"lamp" is on',
                          "lamp is on and on", "lamp is on and not off", "= is on", "lamp is is on", "lamp and on",
                          "lamp is on or lamp is off", "lamp is on; and lamp is off"):
            self.bad(*self.each_place(condition))

    def test_a_name_that_is_no_vars(self):
        self.bad(*self.each_place("door is on"), *self.each_place("on is on"), *self.each_place("lamp is on and door is on"))
        self.bad(*self.each_place("lam is on"), *self.each_place("lampx is on"), *self.each_place("is is on"))

    def test_a_value_that_is_another_vars(self):
        for condition in ("lamp is shut", "lamp not shut", "door is on", "door not on", "lamp is on and door is off"):
            for text in self.each_place(condition):
                self.bad("var door = shut wide;" + text)
        for condition in ("lamp is on and door is shut", "door not wide"):
            for text in self.each_place(condition):
                self.good("var door = shut wide;" + text)

    def test_a_value_that_is_none(self):
        self.bad(*self.each_place("lamp is lamp"), *self.each_place("lamp is dim"), *self.each_place("lamp not o"))

    def test_how_many_parts(self):
        for count in (1, 2, 15, 16, 17, 18):
            for text in self.each_place(" and ".join(["lamp is on"] * count)):
                self.assertEqual(read_answer(text), 0 if count <= 16 else -71, text)


class ChangeTest(ReadCase):
    def change(self, change, first=""):
        return tale(first, LAMP, 'when "x" do ' + change + ' say "";')

    def test_several(self):
        self.good(self.change("lamp is on"), self.change("lamp is on and door is b", "var door = a b;"))

    def test_with_not(self):
        self.bad(self.change("lamp not on"), self.change("lamp is on and door not a", "var door = a b;"))
        self.bad(self.change("door not a and lamp is on", "var door = a b;"))

    def test_a_name_twice(self):
        self.bad(self.change("lamp is on and lamp is on"), self.change("lamp is on and lamp is off"))
        self.bad(self.change("lamp is on and door is b and lamp is off", "var door = a b;"))

    def test_each_missing_or_added_part(self):
        for change in ("lamp", "lamp is", "is on", "lamp on", "lamp is on and", "and lamp is on", "lamp is on door is a",
                       "lamp is on and and door is a", "lamp = on", "lamp is on off", 'lamp is "on"', "lamp is on and on"):
            self.bad(self.change(change, "var door = a b;"))

    def test_a_name_or_value_that_is_not_there(self):
        for change in ("cat is on", "lamp is a", "door is on", "lamp is dim", "lamp is on and cat is a"):
            self.bad(self.change(change, "var door = a b;"))

    def test_how_many_parts(self):
        first = "".join(["var " + name + " = a b;" for name in names(20)])
        for count in (1, 2, 15, 16, 17, 18):
            text = self.change(" and ".join([name + " is b" for name in names(count)]), first)
            self.assertEqual(read_answer(text), 0 if count <= 16 else -71, count)


class RefusalTest(unittest.TestCase):
    TEXT = 'var a = x y z; var b = p q; when "go" if a is x do a is y say "gone"; when "end" do b is q say "end";' \
           'won if b is q;'
    REFUSED = ((" " * 24577, -22), ("no tale", -71), ("", -71), (LAMP + ";", -71), ("var c = a b; var", -71),
               ('var c = d e; when "go" say "other"; won if c is d and', -71))

    def test_a_tale_in_play_goes_on(self):
        for text, number in self.REFUSED:
            rows = play_tale(self.TEXT, say("go"), read(text), STATE, STATUS, say("go"), say("end"), read(text), STATUS,
                             say("go"), STATE, START, STATE, say("go"))
            self.assertEqual(rows, [told("gone"), [number], state(1, 0), [0], [1], told("end"), [number], [1],
                                    [-1], state(1, 1), [0], state(0, 0), told("gone")])

    def test_a_read_till_one_is_answered_0(self):
        rows = play(*[read(text) for text, number in self.REFUSED], read(self.TEXT), START, STATE)
        self.assertEqual(rows, [[number] for text, number in self.REFUSED] + [[0], [0], state(0, 0)])

    def test_a_refused_read_between_read_and_start(self):
        rows = play(read(self.TEXT), read("var"), START, STATE)
        self.assertEqual(rows, [[0], [-71], [0], state(0, 0)])


if __name__ == "__main__":
    unittest.main()
