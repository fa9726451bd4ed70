import copy
import itertools
import random
import unittest

from samples import (BAD, DOCUMENTED, DOUBLINGS, FULL, LOOSE, ODD_VALUES, OPEN, ROUNDS, SWAP, TALLY, StrictCase,
                     is_same, random_effects, random_schemes)
from stackedputs.errors import InvalidText
from stackedputs.papers import read_scheme, text_of_scheme
from stackedputs.schemes import is_scheme

IDENTITY_OF_FOUR = (-1, 0, 1, 2, 3)
# As many values, operands, written ones and rules as there can be.
SIX = (4, tuple((k,) * 5 for k in (-1, 0, 1, 2, 3)) + (IDENTITY_OF_FOUR,), (0, 1, 2, 3, 4, 5),
       tuple((a, b, b - 1) for a in range(6) for b in range(6)))
SMALL = (1, ((0, -1), (0, 0)), (0,), ((0, 0, -1), (0, 1, 1)))
SMALL_TEXT = "values 1\n0 written: 0 -\n1: 0 0\n0 0 -> -\n0 1 -> 1"
TALLY_TEXT = ("values 2\n0 written: 0 0 0\n1 written: 0 1 1\n2 written: - - -\n"
              "0 0 -> 0\n0 2 -> 2\n1 0 -> 0\n1 2 -> 2\n2 0 -> 0\n2 2 -> 2")
SIGNS = " \n\t:->0123456789abvwVW+_.,'\"\\\r\x00\x0b\x0c\x1c\x85\u2028\u0660\u0661\uff10\u00b2\u2212\u00a0"


def own_text(scheme):
    """The text of the scheme, written down sign by sign."""
    def sign(number):
        return "-" if number == -1 else str(number)
    text = "values " + str(scheme[0])
    for operand in range(len(scheme[1])):
        text += "\n" + str(operand) + (" written:" if operand in scheme[2] else ":")
        for state in scheme[1][operand]:
            text += " " + sign(state)
    for a, b, c in scheme[3]:
        text += "\n" + str(a) + " " + str(b) + " -> " + sign(c)
    return text


def bounded_schemes(seed):
    """For each number of values and operands, schemes with no rules, some and all of them."""
    rng = random.Random(seed)
    for v, many in itertools.product(range(1, 5), range(1, 7)):
        effects = random_effects(rng, v, many)
        pairs = list(itertools.product(range(many), repeat=2))
        some = tuple(sorted(rng.sample(range(many), rng.randint(1, many))))
        for written in sorted({(0,), (many - 1,), tuple(range(many)), some}):
            for share in (0, 0.5, 1):
                rules = tuple((a, b, rng.randrange(-1, many)) for a, b in pairs if rng.random() < share)
                yield (v, effects, written, rules)


class Examples(StrictCase):
    def test_text_of_scheme(self):
        self.assert_same(
            [text_of_scheme(SWAP), text_of_scheme((1, ((0, -1), (0, 0)), (0,), ((0, 0, -1), (0, 1, 1))))],
            ['values 1\n0 written: 0 -', 'values 1\n0 written: 0 -\n1: 0 0\n0 0 -> -\n0 1 -> 1'])

    def test_read_scheme(self):
        self.assert_same([read_scheme(text_of_scheme(FULL)) == FULL, read_scheme('values 1\n0 written: - -')],
                         [True, (1, ((-1, -1),), (0,), ())])
        with self.assertRaises(InvalidText) as context:
            read_scheme('values 1\n0: 0 -')
        self.assert_same(context.exception.text, 'values 1\n0: 0 -')


class ThereAndBack(StrictCase):
    def test_schemes_at_each_bound(self):
        schemes = list(bounded_schemes(190)) + DOCUMENTED + [SIX, SMALL, DOUBLINGS, ROUNDS] + random_schemes(190, 300)
        for scheme in schemes:
            text = text_of_scheme(scheme)
            self.assert_same(text, own_text(scheme))
            self.assert_same(read_scheme(text), scheme)

    def test_told_one_by_one(self):
        self.assert_same([text_of_scheme(TALLY), text_of_scheme(SMALL)], [TALLY_TEXT, SMALL_TEXT])
        self.assert_same([read_scheme(TALLY_TEXT), read_scheme(SMALL_TEXT)], [TALLY, SMALL])
        self.assert_same(text_of_scheme(LOOSE).split("\n")[4:], ["0 1 -> 0", "1 1 -> -"])
        self.assert_same(text_of_scheme(SIX).split("\n")[:8],
                         ["values 4", "0 written: - - - - -", "1 written: 0 0 0 0 0", "2 written: 1 1 1 1 1",
                          "3 written: 2 2 2 2 2", "4 written: 3 3 3 3 3", "5 written: - 0 1 2 3", "0 0 -> -"])

    def test_unlike_schemes_have_unlike_texts(self):
        schemes = list(set(bounded_schemes(191)))
        self.assertEqual(len({text_of_scheme(scheme) for scheme in schemes}), len(schemes))

    def test_the_scheme_stays(self):
        scheme = copy.deepcopy(TALLY)
        text_of_scheme(scheme)
        self.assert_same(scheme, TALLY)


class InvalidTexts(StrictCase):
    def assert_invalid(self, value):
        with self.assertRaises(InvalidText, msg=repr(value)[:300]) as context:
            read_scheme(value)
        self.assertTrue(is_same(context.exception.text, value), repr(value)[:300])

    def assert_just_that_of_its_scheme(self, text):
        """The text is that of the scheme that is read, or it is that of none; returns whether it is one."""
        try:
            scheme = read_scheme(text)
        except InvalidText as error:
            self.assertEqual(error.text, text)
            return False
        self.assertTrue(is_scheme(scheme), repr(text))
        self.assertEqual(own_text(scheme), text)
        return True

    def test_a_line_left_out_doubled_or_exchanged(self):
        found = []
        for text in (SMALL_TEXT, TALLY_TEXT, own_text(FULL), own_text(BAD), own_text(SWAP), own_text(OPEN)):
            lines = text.split("\n")
            for at in range(len(lines)):
                found.append(self.assert_just_that_of_its_scheme("\n".join(lines[:at] + lines[at + 1:])))
                self.assert_invalid("\n".join(lines[:at + 1] + lines[at:]))
                for line in ("", " ", "0", "values 2", "0 0 -> 0 ", "9 9 -> 9", "-", ":", "->", "0:", "0 written:"):
                    self.assert_invalid("\n".join(lines[:at + 1] + [line] + lines[at + 1:]))
                    self.assert_invalid("\n".join([line] + lines))
            for one, other in itertools.combinations(range(len(lines)), 2):
                changed = list(lines)
                changed[one], changed[other] = lines[other], lines[one]
                found.append(self.assert_just_that_of_its_scheme("\n".join(changed)))
        self.assertEqual(set(found), {True, False})

    def test_rules_left_out(self):
        lines = TALLY_TEXT.split("\n")
        for at in range(4, 10):
            self.assert_same(read_scheme("\n".join(lines[:at] + lines[at + 1:])),
                             TALLY[:3] + (TALLY[3][:at - 4] + TALLY[3][at - 3:],))

    def test_each_sign_left_out_doubled_changed_or_put_in(self):
        many = 0
        for text in (SMALL_TEXT, own_text(SWAP), own_text(LOOSE)):
            for at in range(len(text) + 1):
                for sign in SIGNS:
                    many += self.assert_just_that_of_its_scheme(text[:at] + sign + text[at + 1:])
                    many += self.assert_just_that_of_its_scheme(text[:at] + sign + text[at:])
                self.assert_just_that_of_its_scheme(text[:at] + text[at + 1:])
                self.assert_just_that_of_its_scheme(text[:at + 1] + text[at:])
                self.assert_just_that_of_its_scheme(text[:at] + text[at:at + 1].upper() + text[at + 1:])
        self.assertGreater(many, 0)

    def test_each_word_left_out_doubled_or_changed(self):
        for text in (SMALL_TEXT, TALLY_TEXT):
            lines = [line.split(" ") for line in text.split("\n")]
            for row, words in enumerate(lines):
                for at, word in enumerate(words):
                    for changed in ([], [word, word], [word + word], ["+" + word], ["0" + word], ["-" + word],
                                    [word + "0"], ["x"], [""], ["-1"], ["None"], ["6"], ["7"], ["10"], ["VALUES"]):
                        line = " ".join(words[:at] + changed + words[at + 1:])
                        other = [" ".join(words) for words in lines[:row]] + [line] + [
                            " ".join(words) for words in lines[row + 1:]]
                        self.assert_invalid("\n".join(other))

    def test_texts_that_differ_in_one_thing(self):
        for old, changes in (
                ("values 2", ["values 1", "values 3", "Values 2", "values2", "values  2", " values 2", "values 2 ",
                              "values +2", "values 02", "values -2", "2", "values 2.0", "values \u0662", "values 2:",
                              "values two", "2 values"]),
                ("values", ["value"]),
                ("values 2\n", ["", "\n"]),
                ("0 written", ["0 Written", "0written", "written 0", "0  written", "0 write", "00 written",
                               "+0 written", "0 written written"]),
                ("0 written:", ["0 written", "0 written :", "0 written::", "0 written: "]),
                ("1 written: 0 1 1", ["1 written: 0 1", "1 written: 0 1 1 1", "1 written: 0 1 2",
                                      "1 written: 0 1 -1", "1 written: 0 1 --", "1 written: 0, 1, 1",
                                      "1 written:0 1 1", "1 written: 0 01 1", "2 written: 0 1 1", "1 written:"]),
                ("2 2 -> 2", ["2 2 -> 3", "2 3 -> 2", "3 2 -> 2", "2 2 -> -1", "2 2 => 2", "2 2->2", "2 2 -> ",
                              "2 2 ->", "2 2 2", "2 2 2 ->", "-> 2 2 2", "2 -> 2 2", "2 2 -> -> 2", "2 2 - > 2",
                              "- 2 -> 2", "2 - -> 2", "2  2 -> 2", "2 2 -> 2 ", " 2 2 -> 2", "2 2 -> +2",
                              "2 2 -> 2 2", "2 0 -> 2", "1 2 -> 2", "2 2 -> \u00b2", "\uff12 2 -> 2",
                              "2\u00a02 -> 2"])):
            for new in changes:
                self.assertIn(old, TALLY_TEXT)
                self.assert_invalid(TALLY_TEXT.replace(old, new, 1))

    def test_line_ends(self):
        for text in (SMALL_TEXT, own_text(SWAP)):
            for end in ("\r\n", "\r", "\n\n", " \n", "\n ", "\x0b", "\x0c", "\x1c", "\x85", "\u2028", "\\n", ";", " "):
                self.assert_invalid(text.replace("\n", end))
                self.assert_invalid(text + end)
                self.assert_invalid(end + text)
            for end in ("\n", " ", "\t", "\x00", "\ufeff", "#", "\n0", "\n0 0"):
                self.assert_invalid(text + end)
                self.assert_invalid(end + text)

    def test_texts_of_what_would_be_no_scheme(self):
        # As own_text has them, of values that break one bound of schemes each.
        for scheme in ((0, ((-1,),), (0,), ()), (5, ((0,) * 6,), (0,), ()), (1, ((0, -1),), (), ()), (1, (), (0,), ()),
                       (1, (), (), ()), (1, ((0, -1),) * 7, (0,), ()), (1, ((0, 1),), (0,), ()), (1, ((0,),), (0,), ()),
                       (2, ((0, 2, 0),), (0,), ()), (2, ((0, 0),), (0,), ()), (1, ((0, -2),), (0,), ()),
                       (1, ((0, -1),), (0,), ((0, 0, 1),)), (1, ((0, -1),), (0,), ((0, 1, 0),)),
                       (1, ((0, -1),), (0,), ((1, 0, 0),)), (1, ((0, -1),), (0,), ((0, 0, -2),)),
                       (1, ((0, -1),), (0,), ((0, 0, 0), (0, 0, 0))), (1, ((0, -1),), (0,), ((0, 0, -1), (0, 0, 0))),
                       (1, ((0, -1),) * 2, (0,), ((0, 1, 0), (0, 0, 0))),
                       (1, ((0, -1),) * 2, (0,), ((1, 0, 0), (0, 1, 0))),
                       (4, ((4,) * 5,), (0,), ()), (4, ((3,) * 4,), (0,), ()), (4, ((3,) * 6,), (0,), ()),
                       (10 ** 59, ((0, 0),), (0,), ()), (1, ((0, 10 ** 59),), (0,), ()), (True, ((0, -1),), (0,), ()),
                       (1, ((0, -1),), (0,), ((-1, 0, 0),)), (-1, ((),), (0,), ()), (1, ((),), (0,), ())):
            self.assertFalse(is_scheme(scheme))
            self.assert_invalid(own_text(scheme))

    def test_operands_and_rules_in_another_order(self):
        for text in ("values 1\n1: 0 0\n0 written: 0 -", "values 1\n0 written: 0 -\n0 0 -> -\n1: 0 0",
                     "0 written: 0 -\nvalues 1", "values 1\n0 0 -> 0\n0 written: 0 -", "values 1\n1 written: 0 -",
                     "values 1\n0 written: 0 -\n2: 0 0", "values 1\n0 written: 0 -\n0 written: 0 -",
                     "values 1\n0 written: 0 -\n0: 0 0", "values 1\n0 written: 0 -\n1: 0 0\n0 1 -> 1\n0 0 -> -"):
            self.assert_invalid(text)

    def test_long_texts(self):
        for text in ("\n" * 20000, "values 1\n" * 5000, "values " + "1" * 20000, SMALL_TEXT + "\n0 1 -> 1" * 5000,
                     "values 1\n0 written: " + "0 " * 10000, "0" * 20000, ": " * 9000, SMALL_TEXT * 300):
            self.assert_invalid(text)

    def test_other_texts(self):
        for text in ("", "values", "values 1", "values 1\n", "0", "-", "written", "None", ":", "->", "\n", repr(SMALL),
                     "[]", "'values 1'", "values 1\n:", "values 1\n0", "values 1\n0 written", "values 1\n0 written:"):
            self.assert_invalid(text)

    def test_values_that_are_no_texts(self):
        for value in ODD_VALUES + [(), SMALL, TALLY, [SMALL_TEXT], (SMALL_TEXT,), {SMALL_TEXT: 1}, 0, 1, "",
                                   SMALL_TEXT.split("\n"), tuple(SMALL_TEXT), SMALL_TEXT.encode()]:
            self.assert_invalid(value)


if __name__ == "__main__":
    unittest.main()
