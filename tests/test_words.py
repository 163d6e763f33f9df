"""[9] words, and the texts of numbers written and read."""

import copy
import itertools
import unittest
from fractions import Fraction

from chancehall.errors import NoNumber
from chancehall.ratios import is_ratio
from chancehall.words import is_word, number_of, number_text

FORTY = "1234567890" * 4
OTHER_FORTY = "9" * 39 + "7"


# A thing with a mind of its own about being asked, to be told apart all the same.
class Stubborn:
    def __eq__(self, other):
        raise RuntimeError("not to be compared")

    def __bool__(self):
        raise RuntimeError("not to be asked for its truth")

    def __len__(self):
        raise RuntimeError("not to be measured")


NO_TEXTS = [None, True, False, 0, 1, -5, 10 ** 59, (), ("a",), ("5",), (1, 2), (5, 1), [], ["a"], ["5"], {},
            {"a": 1}, {"a"}, b"a", b"5", 0.5, 5.0, 1j, Fraction(1, 2), object(), Stubborn(), str, int]


class IsWord(unittest.TestCase):
    def test_words(self):
        for text in ["a", "z", "m", "ab", "zz", "door", "abcdefg", "abcdefgh", "zzzzzzzz", "aaaaaaaa"]:
            self.assertIs(is_word(text), True, text)

    def test_each_letter_by_itself(self):
        for number in range(0, 400):
            wanted = chr(number) in "abcdefghijklmnopqrstuvwxyz"
            self.assertIs(is_word(chr(number)), wanted, number)
            self.assertIs(is_word("ab" + chr(number) + "yz"), wanted, number)
            self.assertIs(is_word(chr(number) + "bc"), wanted, number)
            self.assertIs(is_word("bc" + chr(number)), wanted, number)

    def test_lengths(self):
        for many in range(0, 30):
            self.assertIs(is_word("q" * many), 1 <= many <= 8, many)
        self.assertIs(is_word("a" * 10000), False)

    def test_other_texts(self):
        for text in ["", " ", "A", "Abc", "abC", "a1", "1", "a b", " a", "a ", "a\n", "\na", "a\nb", "\n", "a\t",
                     "a-b", "-", "a/b", "a_b", "a.b", "a;", "a`", "a{", "abcdefgh\n", "abcdefghi", "ABCDEFGH"]:
            self.assertIs(is_word(text), False, repr(text))

    def test_letters_of_other_scripts(self):
        for number in [0xdf, 0xe4, 0xe9, 0x3b1, 0x430, 0xff41]:
            self.assertIs(is_word(chr(number)), False)
            self.assertIs(is_word("a" + chr(number)), False)

    def test_things_of_other_kinds(self):
        for thing in NO_TEXTS:
            self.assertIs(is_word(thing), False)

    def test_lists_of_letters_stay(self):
        for thing in [["a", "b"], ("a", "b"), {"a": "b"}]:
            kept = copy.deepcopy(thing)
            self.assertIs(is_word(thing), False)
            self.assertEqual(thing, kept)


class NumberText(unittest.TestCase):
    def test_told_by_hand(self):
        for one, wanted in [
            ((0, 1), "0"), ((1, 1), "1"), ((-1, 1), "-1"), ((10, 1), "10"), ((-205, 1), "-205"),
            ((1, 2), "1/2"), ((-1, 2), "-1/2"), ((7, 3), "7/3"), ((-7, 3), "-7/3"), ((10, 11), "10/11"),
            ((1, 100), "1/100"),
        ]:
            self.assertEqual(number_text(one), wanted)

    def test_forty_figures(self):
        self.assertEqual(number_text((int(FORTY), 1)), FORTY)
        self.assertEqual(number_text((-int(FORTY), 1)), "-" + FORTY)
        self.assertEqual(number_text((int(FORTY), int(OTHER_FORTY))), FORTY + "/" + OTHER_FORTY)
        self.assertEqual(number_text((-1, int(OTHER_FORTY))), "-1/" + OTHER_FORTY)

    def test_more_figures(self):
        for figures in ["1" + "0" * 40, "8" * 60, "7" + "1" * 998, "3" * 4000]:
            self.assertEqual(number_text((int(figures), 1)), figures)
            self.assertEqual(number_text((-int(figures), 1)), "-" + figures)
            self.assertEqual(number_text((1, int(figures))), "1/" + figures)
            self.assertEqual(number_text((-1, int(figures))), "-1/" + figures)


class NumberOf(unittest.TestCase):
    def is_refused(self, thing):
        with self.assertRaises(NoNumber) as taken:
            number_of(thing)
        self.assertIs(type(taken.exception), NoNumber, repr(thing))

    def test_told_by_hand(self):
        for text, wanted in [
            ("0", (0, 1)), ("1", (1, 1)), ("-1", (-1, 1)), ("9", (9, 1)), ("10", (10, 1)), ("-205", (-205, 1)),
            ("1/2", (1, 2)), ("-1/2", (-1, 2)), ("7/3", (7, 3)), ("-10/11", (-10, 11)), ("100/101", (100, 101)),
            ("1/10", (1, 10)),
        ]:
            told = number_of(text)
            self.assertEqual(told, wanted)
            self.assertIs(is_ratio(told), True)

    def test_forty_figures(self):
        for text, wanted in [
            (FORTY, (int(FORTY), 1)),
            ("-" + FORTY, (-int(FORTY), 1)),
            ("1" + "0" * 39, (10 ** 39, 1)),
            ("1/" + FORTY, (1, int(FORTY))),
            (FORTY + "/" + OTHER_FORTY, (int(FORTY), int(OTHER_FORTY))),
            ("-" + FORTY + "/" + OTHER_FORTY, (-int(FORTY), int(OTHER_FORTY))),
        ]:
            self.assertEqual(number_of(text), wanted)

    def test_more_than_forty_figures(self):
        for figures in [FORTY + "1", "1" + "0" * 40, "8" * 60, "7" * 1000, "1" * 4400, "1" * 10000]:
            for text in [figures, "-" + figures, figures + "/7", "-" + figures + "/2", "1/" + figures,
                         figures + "/" + figures]:
                self.is_refused(text)

    def test_noughts_ahead(self):
        for text in ["00", "05", "-05", "007", "000", "01/2", "1/02", "-01/2", "1/002", "00/3", "0" * 40,
                     "0" * 39 + "1", "0" * 41, "1/0" + "0" * 39, "-00"]:
            self.is_refused(text)

    def test_nought_with_a_sign_or_a_bottom(self):
        for text in ["-0", "0/2", "-0/2", "0/1", "-0/1", "0/0", "1/0", "-1/0", "5/0"]:
            self.is_refused(text)

    def test_terms_that_are_not_lowest(self):
        for text in ["2/4", "-2/4", "3/3", "-3/3", "6/3", "3/1", "-3/1", "1/1", "10/15",
                     "2" + "0" * 39 + "/" + "4" + "0" * 39]:
            self.is_refused(text)

    def test_signs(self):
        for text in ["", "-", "+", "--", "+5", "+0", "--5", "-+5", "5-", "-5-", "1/-2", "-1/-2", "1/+2", "+1/2",
                     "-/2", "1/-", "-/", "/-", "/", "/2", "1/", "-1/", "//", "1//2", "/1/2", "1/2/", "1/2/3",
                     "1/2/3/5", "1-2", "1/2-"]:
            self.is_refused(text)

    def test_other_signs(self):
        for text in ["1.0", "1.", ".5", "0.5", "1,5", "1e3", "1_000", "_1", "1_", "0x10", "0b1", "a", "five", "1a",
                     "a1", "inf", "nan", "1/a", "a/2", "1:2", "1\\2", "(1)", "1;", "\"1\"", "None", "True"]:
            self.is_refused(text)

    def test_blanks(self):
        for blank in [" ", "\n", "\t", "\r", "\x0b", "\x0c", "  ", "\r\n", "\x00", "\xa0"]:
            for text in ["5", "12", "-3", "1/2", "-1/2"]:
                for place in range(len(text) + 1):
                    self.is_refused(text[:place] + blank + text[place:])
            self.is_refused(blank)

    def test_figures_of_other_scripts(self):
        for number in [0xb2, 0xb9, 0x661, 0x967, 0xff11, 0x2460]:
            for text in [chr(number), "1" + chr(number), chr(number) + "1", "1/" + chr(number), "-" + chr(number)]:
                self.is_refused(text)
        self.is_refused(chr(0x2212) + "5")
        self.is_refused("1" + chr(0x2044) + "2")

    def test_things_that_are_no_text(self):
        for thing in NO_TEXTS + [["1", "/", "2"], ("5",), ["5"]]:
            self.is_refused(thing)

    def test_every_short_text(self):
        # Whatever is not the text of the fraction that it might stand for is refused.
        for many in range(1, 5):
            for signs in itertools.product("012-/ +", repeat=many):
                text = "".join(signs)
                wanted = fraction_of(text)
                if wanted is None:
                    self.is_refused(text)
                else:
                    self.assertEqual(number_of(text), wanted)


def fraction_of(text):
    """The small fraction with this text, found by trying all that four signs can write."""
    return SHORT.get(text)


def written(one):
    return str(one.numerator) if one.denominator == 1 else f"{one.numerator}/{one.denominator}"


def short_texts():
    found = {}
    for top in range(-999, 10000):
        found[written(Fraction(top))] = (top, 1)
    for top in range(-99, 100):
        for bottom in range(2, 100):
            one = Fraction(top, bottom)
            found[written(one)] = (one.numerator, one.denominator)
    return found


SHORT = short_texts()


class ThereAndBack(unittest.TestCase):
    def test_small_fractions(self):
        for top in range(-40, 41):
            for bottom in range(1, 41):
                one = Fraction(top, bottom)
                told = number_text((one.numerator, one.denominator))
                self.assertEqual(told, written(one))
                self.assertEqual(number_of(told), (one.numerator, one.denominator))

    def test_fractions_of_many_figures(self):
        for top in [0, 1, 10 ** 39, 10 ** 40 - 1, int(FORTY)]:
            for bottom in [1, 2, 10 ** 39 + 1, 10 ** 40 - 1, int(OTHER_FORTY)]:
                for sign in [1, -1]:
                    one = Fraction(sign * top, bottom)
                    pair = (one.numerator, one.denominator)
                    self.assertEqual(number_of(number_text(pair)), pair)

    def test_texts_of_more_than_forty_figures_are_not_read_again(self):
        for one in [(10 ** 40, 1), (-(10 ** 40), 1), (1, 10 ** 40), (10 ** 40, 3), (10 ** 40, 10 ** 40 + 1)]:
            with self.assertRaises(NoNumber):
                number_of(number_text(one))


if __name__ == "__main__":
    unittest.main()
