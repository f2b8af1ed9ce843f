"""What is a text and what is none, as net tells it: -2, or another answer."""

import itertools
import unittest

import plain_rules
from linkgrounds.proofs import net


def chain(deep):
    """Brackets as deep within one another as asked, with one letter more than brackets."""
    return "(" * deep + "a" + "*a)" * deep


class Texts(unittest.TestCase):
    def assert_text(self, text):
        # None of these texts' letters have the links that are handed in: a text answers -3.
        self.assertEqual(net(plain_rules.as_bytes(text), []), [-3], text)

    def assert_no_text(self, text):
        self.assertEqual(net(plain_rules.as_bytes(text), []), [-2], text)

    def test_every_letter_is_a_text(self):
        for letter in plain_rules.PLAIN + plain_rules.TURNED:
            self.assert_text(letter)

    def test_no_other_byte_is_a_text(self):
        for byte in range(256):
            if chr(byte) not in plain_rules.PLAIN + plain_rules.TURNED:
                self.assertEqual(net([byte], []), [-2], byte)
                self.assertEqual(net([97, byte], []), [-2], byte)
                self.assertEqual(net([40, 97, 42, byte, 41], []), [-2], byte)
                self.assertEqual(net([97, 44, byte], []), [-2], byte)

    def test_texts(self):
        for text in ("a,A", "(a|A)", "(a*A)", "((a*b)|(c*D)),e", "(a|(b*c)),(D|e),F,(g*H)", "a,a,a"):
            self.assert_text(text)

    def test_empty_text(self):
        self.assert_no_text("")

    def test_blanks_and_other_signs(self):
        for text in (" ", "a ", " a", "a, A", "(a *A)", "a\n", "a\t", "a\0", "a;A", "(a+A)", "(a&A)", "[a*A]", "0"):
            self.assert_no_text(text)

    def test_other_letters(self):
        for text in ("i", "I", "z", "Z", "`", "@", "a,i", "(a*I)", "(i|I)", "\xe4", "\xff"):
            self.assert_no_text(text)

    def test_missing_needless_and_unbalanced_brackets(self):
        for text in (
            "a*A", "a|A", "(a)", "((a*A))", "(a*A", "a*A)", "(a*(b|B)", "(a*b|B))", "(a*b*c)", "(a*b|c)",
            "()", "(", ")", "a)", "(a", "(a*", "(*a)", "(a*)", "(aA)", "aA", "(a*b)(A|B)", "a(A|B)", "(a*b)c",
            ")a*A(", "(a|A))", "((a|A)", "(a*b,A)", "(a,A)", "(a**A)", "(a||A)", "(|)", "a,()", "(a*(b))",
        ):
            self.assert_no_text(text)

    def test_commas(self):
        for text in (",", ",a", "a,", "a,,A", ",,", "(a|A),", ",(a|A)", "(a|,A)", "(a,|A)", "(,a|A)", "(a|A,)"):
            self.assert_no_text(text)

    def test_signs_outside_of_brackets(self):
        for text in ("*", "|", "*a", "a*", "|a", "a|", "a,*A", "a*,A", "(a*b)|(A|B)", "(a*b)*A", "a|(A*b)"):
            self.assert_no_text(text)

    def test_letters_at_most(self):
        self.assert_text(",".join("a" * 16))
        self.assert_no_text(",".join("a" * 17))
        self.assert_text("(a*A)," * 7 + "(b|B)")
        self.assert_no_text("(a*A)," * 8 + "b")
        self.assert_text("aAbBcCdDeEfFgGhH".replace("", ",").strip(","))

    def test_brackets_at_most(self):
        self.assert_text(chain(15))
        self.assert_text("(a|" * 15 + "a" + ")" * 15)
        for deep in (16, 17):
            self.assert_no_text(chain(deep))
            self.assert_no_text("(a|" * deep + "a" + ")" * deep)

    def test_brackets_that_are_not_closed(self):
        for deep in (1, 15, 16, 17, 200, 256):
            self.assert_no_text("(" * deep)
        for deep in (1, 15, 16, 17, 200, 255):
            self.assert_no_text("(" * deep + "a")
        for deep in (15, 16, 17, 85):
            self.assert_no_text("(a|" * deep + "a")

    def test_brackets_200_deep(self):
        self.assert_no_text("(" * 200 + "a" + "*a)" * 18)
        self.assert_no_text("(" * 120 + "a" + ")" * 120)

    def test_256_bytes(self):
        self.assertEqual(net(list(range(256)), []), [-2])
        for byte in range(256):
            self.assertEqual(net([byte] * 256, []), [-2], byte)
        for beginning in ("a,A,", "(a*A),", "(a|"):
            long = (beginning * 256)[:256]
            self.assert_no_text(long)
        self.assert_no_text("(a|A)" + " " * 251)
        self.assert_no_text("a" + ",a" * 127 + ",")

    def test_all_short_rows_of_signs(self):
        for length in range(7):
            for signs in itertools.product("aB(),*|", repeat=length):
                self.assert_like_plain_rules("".join(signs))

    def test_all_rows_of_few_signs(self):
        for signs in itertools.product("a()*,", repeat=7):
            self.assert_like_plain_rules("".join(signs))

    def test_texts_with_one_sign_more_less_or_other(self):
        for text in ("((a|B)*(c|D)),e", chain(15), "(a|" * 15 + "a" + ")" * 15, ",".join("a" * 16), "a,(b*(C|d)),E"):
            self.assertTrue(plain_rules.is_text(text))
            for at in range(len(text) + 1):
                self.assert_like_plain_rules(text[:at] + text[at + 1:])
                for sign in "aHiI(),*| ":
                    self.assert_like_plain_rules(text[:at] + sign + text[at:])
                    self.assert_like_plain_rules(text[:at] + sign + text[at + 1:])

    def assert_like_plain_rules(self, text):
        if plain_rules.is_text(text):
            self.assert_text(text)
        else:
            self.assert_no_text(text)


if __name__ == "__main__":
    unittest.main()
