"""How many proofs a text has, as count tells it."""

import itertools
import random
import unittest

import plain_rules
from linkgrounds.proofs import count, net

# 16 letters, 40320 rows of links.
ALL_ARE_PROOFS = "(((a*a)*(a*a))*((a*a)*(a*a))),(((A|A)|(A|A))|((A|A)|(A|A)))"
# These two have as many both as a proof has, so that only the links themselves can tell.
NONE_IS_A_PROOF = "((((((A|(a*A))|A)|(a*((A|A)|A)))*a)|((a*((a*a)|A))|(A*a)))*a)"
FEW_ARE_PROOFS = "((((((((a|(A*a))|(A*a))|((a|a)*A))*A)|(A*A))*A)|a)|((a|a)*A))"


def ask(text):
    return count(plain_rules.as_bytes(text))


def is_proof(text, links):
    return net(plain_rules.as_bytes(text), list(links)) == [1]


class Refusals(unittest.TestCase):
    def test_too_many_bytes(self):
        for text in ("a" * 257, "a,A" + " " * 254, "(" * 257, "(" * 1000, "a," * 200, "a,A," * 65):
            self.assertEqual(ask(text), [-1])
        self.assertEqual(ask("a" * 256), [-2])

    def test_no_text(self):
        for text in ("", " ", "a*A", "i,I", "(a|A", "a,A,", ",a", "a, A", "(a)", "(a|b|A)", "aA", "a,A\n", "\xe4"):
            self.assertEqual(ask(text), [-2], text)
        self.assertEqual(ask(",".join("aA" * 8 + "a")), [-2])
        self.assertEqual(ask("(" * 16 + "a" + "*a)" * 16), [-2])
        self.assertEqual(ask("(" * 256), [-2])


class Count(unittest.TestCase):
    def test_no_proof(self):
        for text in ("a", "a,a", "(a|a)", "a,A,a", "a,B", "(a*b),(A|A)", "(a*h),(A|B)", ",".join("a" * 16)):
            self.assertEqual(ask(text), [0], text)
        for text in ("(a*A)", "(a|b),(A|B)", "(a*b),(A*B)", "a,A,b,B", "a,A,a,A", "((a|b)*A),B", "((a|a)*(A|A))"):
            self.assertEqual(ask(text), [0], text)

    def test_one_proof(self):
        for text in ("a,A", "A,a", "(h|H)", "(a*b),(A|B)", "(a*b),(B|A)", "(a*A),a,A", "((a*A)|(a|A))"):
            self.assertEqual(ask(text), [1], text)

    def test_several_proofs(self):
        self.assertEqual(ask("(a*a),(A|A)"), [2])
        self.assertEqual(ask("(a*a),A,A"), [2])
        self.assertEqual(ask("((a*a)*a),A,A,A"), [6])
        self.assertEqual(ask("((a*a)*(b*b)),((A|A)|(B|B))"), [4])

    def test_sixteen_letters_alike(self):
        self.assertEqual(ask(ALL_ARE_PROOFS), [40320])
        self.assertEqual(ask(ALL_ARE_PROOFS.replace("|", "x").replace("*", "|").replace("x", "*")), [40320])
        self.assertEqual(ask(ALL_ARE_PROOFS.replace(",", "|").join("()")), [40320])
        self.assertEqual(ask("((a*" * 7 + "(a|A)" + ")|A)" * 7), [1])
        # A row of seven, in any order, between the letter at the left and the one at the right.
        self.assertEqual(ask("a,(A*a),(A*a),(A*a),(A*a),(A*a),(A*a),(A*a),A"), [5040])

    def test_sixteen_letters_alike_without_a_proof(self):
        self.assertEqual(ask(NONE_IS_A_PROOF), [0])
        self.assertEqual(ask(ALL_ARE_PROOFS.replace(",", "*").join("()")), [0])
        self.assertEqual(ask(ALL_ARE_PROOFS.replace("|", "*")), [0])
        self.assertEqual(ask(ALL_ARE_PROOFS.replace("*", "|")), [0])
        self.assertEqual(ask(",".join("aA" * 8)), [0])

    def test_sixteen_letters_alike_each_row_looked_at(self):
        rows = plain_rules.all_links(plain_rules.letters_of(FEW_ARE_PROOFS))
        self.assertEqual(len(rows), 40320)
        self.assertEqual(ask(FEW_ARE_PROOFS), [sum(is_proof(FEW_ARE_PROOFS, links) for links in rows)])

    def test_sixteen_letters_of_several_kinds(self):
        four = "(((a*a)*(b*b))*((c*c)*(d*d))),(((A|A)|(B|B))|((C|C)|(D|D)))"
        self.assertEqual(ask(four), [16])
        self.assertEqual(ask("(((a*b)*(c*d))*((e*f)*(g*h))),(((A|B)|(C|D))|((E|F)|(G|H)))"), [1])


class AgainstPlainRules(unittest.TestCase):
    def test_all_small_texts(self):
        for letters_count in range(1, 5):
            rows = list(plain_rules.all_rows(0, letters_count))
            for letters in itertools.product("aAbB", repeat=letters_count):
                for formulas in rows:
                    self.check(formulas, "".join(letters))

    def test_all_texts_of_six_letters_alike(self):
        pairings = list(plain_rules.all_pairings(list(range(6))))
        arrangements = ["a" + "".join(letters) for letters in itertools.product("aA", repeat=5)]
        seen = set()
        for formulas in plain_rules.all_rows(0, 6):
            proofs = [links for links in pairings if plain_rules.has_proof(formulas, links)]
            for letters in arrangements:
                if letters.count("a") == 3:
                    expected = sum(plain_rules.are_links(letters, links) for links in proofs)
                    text = plain_rules.write(formulas, letters)
                    self.assertEqual(ask(text), [expected], text)
                    seen.add(expected)
        self.assertEqual(sorted(seen), [0, 1, 2, 4, 6])

    def test_texts_of_eight_letters_around_proofs(self):
        dice = random.Random(71)
        for turn in range(150):
            formulas, links = plain_rules.place_in_order(plain_rules.grow_proof(dice, 4))
            letters = plain_rules.letters_alike(dice, links, "aaab")
            self.check(formulas, letters)
            self.check(plain_rules.swap_signs(dice, formulas), letters)

    def test_texts_of_twelve_letters_around_proofs(self):
        # Too many to be held against the plain rules; what is a proof is told by net, link by link.
        dice = random.Random(72)
        for turn in range(25):
            formulas, links = plain_rules.place_in_order(plain_rules.grow_proof(dice, 6))
            letters = plain_rules.letters_alike(dice, links, "aaab")
            text = plain_rules.write(plain_rules.swap_signs(dice, formulas), letters)
            self.assertEqual(ask(text), [sum(is_proof(text, links) for links in plain_rules.all_links(letters))], text)

    def test_texts_in_which_much_comes_to_nearly_the_same(self):
        # Begun rows of links whose letters lie in pieces alike, though not the same letters are left.
        texts = (
            "A,a,((a*A)*a),a,((A*A)*a),A",
            "A,a,(A|((a|(A*(a*A)))|(a*(a*A))))",
            "A,a,((a|A)|((a*a)*A)),(A*(a*A))",
            "a,A,((A*a)*(A*A)),a,(a*(A*a)),a,A",
            "A,(a*a),(A*a),(A*(a*A)),A,((A*a)|a)",
            "B,C,((b*c)*(A*b)),(a*B),B,(b*(b*c)),B,C",
        )
        for text in texts:
            rows = plain_rules.all_links(plain_rules.letters_of(text))
            self.assertEqual(ask(text), [sum(is_proof(text, links) for links in rows)], text)

    def check(self, formulas, letters):
        text = plain_rules.write(formulas, letters)
        self.assertEqual(ask(text), [len(plain_rules.all_proofs(formulas, letters))], text)


if __name__ == "__main__":
    unittest.main()
