"""Which proof comes first, as first tells it: how many letters there are, and the links; -6 where there's none."""

import itertools
import random
import unittest

import plain_rules
from linkgrounds.proofs import first, net

# 16 letters, 40320 rows of links.
ALL_ARE_PROOFS = "(((a*a)*(a*a))*((a*a)*(a*a))),(((A|A)|(A|A))|((A|A)|(A|A)))"
# With as many both as a proof has, so that only the links themselves can tell.
NONE_IS_A_PROOF = "((((((A|(a*A))|A)|(a*((A|A)|A)))*a)|((a*((a*a)|A))|(A*a)))*a)"


def ask(text):
    return first(plain_rules.as_bytes(text))


def is_proof(text, links):
    return net(plain_rules.as_bytes(text), list(links)) == [1]


def first_of(rows):
    """The row with the lower number at the first place at which they differ, with its length ahead."""
    return [len(min(rows))] + min(rows) if rows else [-6]


class Refusals(unittest.TestCase):
    def test_too_many_bytes(self):
        for text in ("a" * 257, "a,A" + " " * 254, "(" * 257, "(" * 1000, "a," * 200, "a,A," * 65):
            self.assertEqual(ask(text), [-1])
        self.assertEqual(ask("a" * 256), [-2])

    def test_no_text(self):
        for text in ("", " ", "a*A", "i,I", "(a|A", "a,A,", ",a", "a, A", "(a)", "(a|b|A)", "aA", "a,A\n", "\xe4"):
            self.assertEqual(ask(text), [-2], text)
        self.assertEqual(ask(",".join("aA" * 8 + "a")), [-2])
        self.assertEqual(ask("(" * 16 + "a" + "*a)" * 16), [-2])
        self.assertEqual(ask("(" * 256), [-2])

    def test_what_net_refuses_as_no_text_is_refused_alike(self):
        for length in range(7):
            for signs in itertools.product("aA(),*|", repeat=length):
                text = plain_rules.as_bytes("".join(signs))
                self.assertEqual(first(list(text)) == [-2], net(list(text), []) == [-2], signs)

    def test_letters_without_links(self):
        for text in ("a", "a,a", "(a|a)", "a,A,a", "a,B", "(a*b),(A|A)", "(a*h),(A|B)", ",".join("a" * 16)):
            self.assertEqual(ask(text), [-6], text)
        self.assertEqual(ask(ALL_ARE_PROOFS.replace("A", "a")), [-6])
        # Only the last two letters don't fit.
        self.assertEqual(ask(ALL_ARE_PROOFS.replace("(a*a)))", "(a*b)))").replace("(A|A)))", "(A|C)))")), [-6])

    def test_links_but_no_proof(self):
        for text in ("(a*A)", "(a|b),(A|B)", "(a*b),(A*B)", "a,A,b,B", "a,A,a,A", "((a|b)*A),B", "((a|a)*(A|A))"):
            self.assertEqual(ask(text), [-6], text)


class First(unittest.TestCase):
    def test_one_proof(self):
        self.assertEqual(ask("a,A"), [2, 1, 0])
        self.assertEqual(ask("A,a"), [2, 1, 0])
        self.assertEqual(ask("(h|H)"), [2, 1, 0])
        self.assertEqual(ask("(a*b),(A|B)"), [4, 2, 3, 0, 1])
        self.assertEqual(ask("(a*b),(B|A)"), [4, 3, 2, 1, 0])

    def test_first_of_two(self):
        self.assertEqual(ask("(a*a),(A|A)"), [4, 2, 3, 0, 1])
        self.assertEqual(ask("(a*a),A,A"), [4, 2, 3, 0, 1])
        self.assertEqual(ask("(a|(A*a)),A"), [4, 1, 0, 3, 2])

    def test_lower_links_are_no_proof(self):
        self.assertEqual(ask("(a*A),a,A"), [4, 3, 2, 1, 0])
        self.assertEqual(ask("((a*A)|(a|A))"), [4, 3, 2, 1, 0])
        self.assertEqual(ask("(a|a),(A*(A*b)),B"), [6, 2, 3, 0, 1, 5, 4])

    def test_sixteen_different_letters(self):
        chain = "a,(A*b),(B*c),(C*d),(D*e),(E*f),(F*g),(G*h),H"
        self.assertEqual(ask(chain), [16] + plain_rules.near(16))
        self.assertEqual(ask(chain.replace("(E*f)", "(E|f)")), [-6])
        deep = "(" * 15 + "a" + "|A)*b)|B)*c)|C)*d)|D)*e)|E)*f)|F)*g)|G)*h)|H)"
        self.assertEqual(ask(deep), [16] + plain_rules.near(16))
        self.assertEqual(ask(deep.replace("|H", "*H")), [-6])


class SixteenLettersAlike(unittest.TestCase):
    def test_the_first_links_are_a_proof(self):
        self.assertEqual(ask(ALL_ARE_PROOFS), [16] + [place ^ 8 for place in range(16)])
        self.assertEqual(ask(ALL_ARE_PROOFS.replace(",", "|").join("()")), [16] + [place ^ 8 for place in range(16)])
        self.assertEqual(ask("a,(A*a),(A*a),(A*a),(A*a),(A*a),(A*a),(A*a),A"), [16] + plain_rules.near(16))

    def test_only_the_last_links_are_a_proof(self):
        text = "((a*" * 7 + "(a|A)" + ")|A)" * 7
        self.assertEqual(ask(text), [16] + list(range(15, -1, -1)))

    def test_one_proof_alone(self):
        text = "(" * 15 + "a" + "|A)*a)|A)*a)|A)*a)|A)*a)|A)*a)|A)*a)|A)*a)|A)"
        self.assertEqual(ask(text), [16] + plain_rules.near(16))

    def test_no_proof_at_all(self):
        self.assertEqual(ask(NONE_IS_A_PROOF), [-6])
        self.assertEqual(ask(ALL_ARE_PROOFS.replace(",", "*").join("()")), [-6])
        self.assertEqual(ask(ALL_ARE_PROOFS.replace("(a*a)", "(a|a)")), [-6])
        self.assertEqual(ask(ALL_ARE_PROOFS.replace("|", "*")), [-6])
        self.assertEqual(ask(ALL_ARE_PROOFS.replace("*", "|")), [-6])
        self.assertEqual(ask(",".join("aA" * 8)), [-6])
        self.assertEqual(ask(",".join(["(a|A)"] * 8)), [-6])

    def test_no_proof_at_all_each_row_looked_at(self):
        rows = plain_rules.all_links(plain_rules.letters_of(NONE_IS_A_PROOF))
        self.assertEqual(len(rows), 40320)
        self.assertFalse(any(is_proof(NONE_IS_A_PROOF, links) for links in rows))

    def test_no_later_than_a_proof_that_was_grown(self):
        dice = random.Random(61)
        for turn in range(60):
            formulas, links = plain_rules.place_in_order(plain_rules.grow_proof(dice, 8))
            text = plain_rules.write(formulas, plain_rules.letters_alike(dice, links, "a"))
            answer = ask(text)
            self.assertEqual(answer[0], 16, text)
            self.assertLessEqual(answer[1:], links, text)
            self.assertTrue(is_proof(text, answer[1:]), text)


class AgainstPlainRules(unittest.TestCase):
    def test_all_small_texts(self):
        for count in range(1, 5):
            rows = list(plain_rules.all_rows(0, count))
            for letters in itertools.product("aAbB", repeat=count):
                for formulas in rows:
                    self.check(formulas, "".join(letters))

    def test_all_texts_of_six_letters_alike(self):
        pairings = list(plain_rules.all_pairings(list(range(6))))
        arrangements = ["a" + "".join(letters) for letters in itertools.product("aA", repeat=5)]
        seen = set()
        for formulas in plain_rules.all_rows(0, 6):
            proofs = [links for links in pairings if plain_rules.has_proof(formulas, links)]
            for letters in arrangements:
                if letters.count("a") == 3:
                    expected = first_of([links for links in proofs if plain_rules.are_links(letters, links)])
                    text = plain_rules.write(formulas, letters)
                    self.assertEqual(ask(text), expected, text)
                    seen.add(tuple(expected))
        # -6, and each of the 15 ways to link six places.
        self.assertEqual(len(seen), 16)

    def test_texts_of_eight_letters_around_proofs(self):
        dice = random.Random(62)
        for turn in range(150):
            formulas, links = plain_rules.place_in_order(plain_rules.grow_proof(dice, 4))
            letters = plain_rules.letters_alike(dice, links, "aaab")
            self.check(formulas, letters)
            self.check(plain_rules.swap_signs(dice, formulas), letters)

    def test_texts_of_twelve_letters_around_proofs(self):
        # Too many to be held against the plain rules; what is a proof is told by net, link by link.
        dice = random.Random(63)
        for turn in range(25):
            formulas, links = plain_rules.place_in_order(plain_rules.grow_proof(dice, 6))
            letters = plain_rules.letters_alike(dice, links, "aaab")
            text = plain_rules.write(plain_rules.swap_signs(dice, formulas), letters)
            rows = [links for links in plain_rules.all_links(letters) if is_proof(text, links)]
            self.assertEqual(ask(text), first_of(rows), text)

    def check(self, formulas, letters):
        text = plain_rules.write(formulas, letters)
        self.assertEqual(ask(text), first_of(plain_rules.all_proofs(formulas, letters)), text)


if __name__ == "__main__":
    unittest.main()
