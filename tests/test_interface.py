"""The interface: one list of whole numbers in, one list of whole numbers out."""

import unittest

from ruletales.tale import answers
from tests.helper import LAMP, START, STATE, STATUS, flat, parted, play, read, say, state, told

CALLS = flat([read("no"), read(LAMP), START, STATUS, STATE, say("stay"), say(" GO "), STATE, STATUS, say("go"),
              say("x" * 256), START, STATE])
ANSWERS = flat([[1, -71], [1, 0], [1, 0], [1, 0], [25, 1] + [0] * 24, [1, 0], [3, 2, 111, 107],
                [25, 1, 1] + [0] * 23, [1, 1], [1, -1], [1, -22], [1, 0], [25, 1] + [0] * 24])


class OnlyRead(list):
    """A list that fails where it would be changed, even if it were put back behind it."""

    def refuse(self, *words):
        raise AssertionError("what is handed in was changed")

    append = extend = insert = pop = remove = clear = sort = reverse = refuse
    __setitem__ = __delitem__ = __iadd__ = __imul__ = refuse


class FormTest(unittest.TestCase):
    def test_calls_and_answers_number_by_number(self):
        self.assertEqual(answers(CALLS), ANSWERS)

    def test_one_call(self):
        self.assertEqual(answers([0, 0]), [1, -71])
        self.assertEqual(answers([0, 3, 0, 1, 2]), [1, -71])

    def test_kinds(self):
        seen = answers(CALLS)
        self.assertIs(type(seen), list)
        self.assertTrue(all([type(number) is int for number in seen]))

    def test_a_row_that_looks_like_calls(self):
        self.assertEqual(play(read(LAMP), START, say([1, 3, 4]), say([]), say([0, 0]), STATUS),
                         [[0], [0], [0], [0], [0], [0]])

    def test_what_is_handed_in_is_not_changed(self):
        calls = list(CALLS)
        answers(calls)
        self.assertEqual(calls, CALLS)

    def test_not_for_a_while_either(self):
        self.assertEqual(answers(OnlyRead(CALLS)), ANSWERS)

    def test_nothing_is_kept(self):
        self.assertEqual(answers(CALLS), answers(CALLS))
        first = answers(flat([read(LAMP), START, say("go"), STATE]))
        answers(flat([read('var a = p q; var b = p q; when "x" say ""; won if a is q;'), START, say("x")]))
        self.assertEqual(answers(flat([read(LAMP), START, say("go"), STATE])), first)

    def test_what_is_given_back_is_new(self):
        first = answers(CALLS)
        first.clear()
        self.assertEqual(answers(CALLS), ANSWERS)


class SizeTest(unittest.TestCase):
    def test_4000_calls(self):
        rows = play(read(LAMP), START, *[say("stay")] * 1998, say("go"), *[STATE] * 1998, STATUS)
        self.assertEqual(rows, [[0], [0]] + [[0]] * 1998 + [told("ok")] + [state(1)] * 1998 + [[1]])
        self.assertEqual(len(rows), 4000)

    def test_4000_reads(self):
        self.assertEqual(play(*[read("var a = b c;")] * 4000), [[-71]] * 4000)

    def test_a_text_of_24576_bytes(self):
        text = "var a = x y;" + ('when "go" if a is y and a is y and a is y say "' + "x" * 120 + '";') * 127 + \
            'when "go" say "last"; won if a is y;'
        text = text + " " * (24576 - len(text))
        self.assertEqual(len(text), 24576)
        self.assertEqual(play(read(text), START, say("go"), STATE), [[0], [0], told("last"), state(0)])

    def test_long_texts_that_are_no_tale(self):
        for text in ("a" * 24576, '"' * 24576, "(" * 24576, ";" * 24576, "var a = " + "b " * 12284, "var " * 6144,
                     "var a=b c;won if a is b" + " and a is b" * 2230, '"' + "x" * 24575, "=" * 24576):
            self.assertLessEqual(len(text), 24576)
            self.assertEqual(play(read(text)), [[-71]])

    def test_answers_of_ten_million_numbers(self):
        text = 'var a = x y; when "g" say "' + "s" * 255 + '";' + ('show "' + "t" * 255 + '";') * 64 + "won if a is y;"
        one = told("s" * 255 + ("\n" + "t" * 255) * 64)
        count = 9999990 // (len(one) + 1)
        seen = answers(flat([read(text), START] + [say("g")] * count))
        self.assertEqual(seen[:4], [1, 0, 1, 0])
        self.assertEqual(seen[4:], ([len(one)] + one) * count)

    def test_many_conditions_asked_many_times(self):
        asked = " and ".join(["a is x"] * 15) + " and a is y"
        text = "var a=x y;" + ('when"g"if ' + asked + ' say"";') * 80 + "won if a is y;" + \
            ("lost if " + asked + ";") * 16 + ('show"s"if ' + asked + ";") * 20 + 'when"g"say"";'
        self.assertLessEqual(len(text), 24576)
        rows = parted(answers(flat([read(text), START] + [say("g")] * 3998)))
        self.assertEqual(rows, [[0], [0]] + [[2]] * 3998)


if __name__ == "__main__":
    unittest.main()
