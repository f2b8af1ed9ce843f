"""Why links are no proof, as why tells it: the first choice whose graph isn't a tree; -6 where there's none."""

import itertools
import random
import unittest

import plain_rules
from linkgrounds.proofs import net, why


def ask(text, links):
    return why(plain_rules.as_bytes(text), list(links))


class Refusals(unittest.TestCase):
    def test_too_many_bytes_or_links(self):
        for text in ("a" * 257, "a,A" + " " * 254, "(" * 1000, "a," * 200):
            for links in ([], [1, 0], [0] * 16, [0] * 17):
                self.assertEqual(ask(text, links), [-1])
        for text in ("a,A", "(a|A)", "", "a*", " " * 256):
            self.assertEqual(ask(text, [1, 0] + [0] * 15), [-1])

    def test_no_text_comes_before_no_links(self):
        for text in ("", " ", "a*A", "i,I", "(a|A", "(a|A),", "a, A", "(a|b|A)", "(a)", ",".join("a" * 17), "a" * 256):
            for links in ([], [0], [1, 0], [1, 1], [255, 255], [9] * 16):
                self.assertEqual(ask(text, links), [-2], (text, links))

    def test_no_links_come_before_every_graph_a_tree(self):
        for links in ([], [1], [0, 1], [1, 1], [0, 0], [1, 2], [255, 0], [1, 0, 2], [1, 0] * 8):
            self.assertEqual(ask("(a|A)", links), [-3], links)
            self.assertEqual(ask("a,A", links), [-3], links)
        for text in ("a,a", "(a|b)", "(A|A)", "(a*B)"):
            self.assertEqual(ask(text, [1, 0]), [-3], text)

    def test_every_graph_a_tree(self):
        self.assertEqual(ask("a,A", [1, 0]), [-6])
        self.assertEqual(ask("(a|A)", [1, 0]), [-6])
        self.assertEqual(ask("(a*b),(A|B)", [2, 3, 0, 1]), [-6])
        self.assertEqual(ask("((a*b)|(A|B))", [2, 3, 0, 1]), [-6])
        self.assertEqual(ask("((a|A)*(b|B))", [1, 0, 3, 2]), [-6])

    def test_what_net_refuses_is_refused_alike(self):
        rows = ([], [1, 0], [0, 1], [1, 0, 3, 2], [0] * 17)
        for length in range(6):
            for signs in itertools.product("aA(),*|", repeat=length):
                text = plain_rules.as_bytes("".join(signs))
                for links in rows:
                    expected = net(list(text), list(links))
                    if expected[0] < 0:
                        self.assertEqual(why(list(text), list(links)), expected, (signs, links))

    def test_all_rows_of_numbers(self):
        for text, letters in (("(a*A),a", "aAa"), ("(a|(A*b)),B", "aAbB"), ("(a*A),(A|a)", "aAAa")):
            for count in range(len(letters) + 2):
                for numbers in itertools.product(range(len(letters) + 1), repeat=count):
                    refused = ask(text, numbers) == [-3]
                    self.assertEqual(refused, not plain_rules.are_links(letters, numbers), (text, numbers))


class Why(unittest.TestCase):
    def test_one_choice_with_a_ring(self):
        self.assertEqual(ask("(a*A)", [1, 0]), [0])
        self.assertEqual(ask("(a*b),(A*B)", [2, 3, 0, 1]), [0])
        self.assertEqual(ask("((a*A)*(b*B))", [1, 0, 3, 2]), [0])

    def test_no_ring_but_not_of_one_piece(self):
        self.assertEqual(ask("a,A,b,B", [1, 0, 3, 2]), [0])
        self.assertEqual(ask("(a|b),(A|B)", [2, 3, 0, 1]), [0])
        self.assertEqual(ask("((a|A)|(b|B))", [1, 0, 3, 2]), [0])
        self.assertEqual(ask("((a*b)|c),(A|(B|C))", [3, 4, 5, 0, 1, 2]), [0])

    def test_a_ring_and_not_of_one_piece(self):
        self.assertEqual(ask("(a*A),b,B", [1, 0, 3, 2]), [0])
        self.assertEqual(ask("(a*A),(b|B)", [1, 0, 3, 2]), [0])

    def test_ring_with_the_first_or_the_second_formula(self):
        self.assertEqual(ask("((a|b)*A),B", [2, 3, 0, 1]), [0])
        self.assertEqual(ask("((b|a)*A),B", [3, 2, 1, 0]), [1])
        self.assertEqual(ask("(A*(b|a)),B", [2, 3, 0, 1]), [1])

    def test_one_within_another(self):
        self.assertEqual(ask("(c|((C*(b|a))*A)),B", [1, 0, 5, 4, 3, 2]), [2])
        # The inner | stands further to the left, though its bracket opens later.
        self.assertEqual(ask("(((b|a)*A)|c),(B*C)", [4, 2, 1, 5, 0, 3]), [1])
        self.assertEqual(ask("(c|((b|a)*A)),(B*C)", [5, 4, 3, 2, 1, 0]), [2])

    def test_one_beside_another(self):
        two = "(((b|a)*A)*((b|a)*A)),B,B"
        self.assertEqual(ask(two, [6, 2, 1, 7, 5, 4, 0, 3]), [2])
        self.assertEqual(ask("((c|C)*((b|a)*A)),B", [1, 0, 5, 4, 3, 2]), [2])
        self.assertEqual(ask("(((b|a)*A)*(c|C)),B", [5, 2, 1, 4, 3, 0]), [1])

    def test_ring_with_all_second_formulas_alone(self):
        self.assertEqual(ask("((c|a)*B),((d|b)*A),(C*D)", [6, 5, 4, 7, 2, 1, 0, 3]), [3])
        four = "((a|e)*H),((b|f)*E),((c|g)*F),((d|h)*G),(((A*B)*C)*D)"
        self.assertEqual(ask(four, [12, 5, 10, 13, 8, 1, 14, 11, 4, 15, 2, 7, 0, 3, 6, 9]), [15])

    def test_ring_with_the_last_of_many(self):
        # Each pair (x|X) is a tree whatever is chosen; the last | has a ring with its second formula.
        text = "((b|a)*A)"
        for letter in "cdefgh":
            text = f"(({letter}|{letter.upper()})*{text})"
        self.assertEqual(ask(text + ",B", plain_rules.near(12) + [15, 14, 13, 12]), [64])

    def test_fifteen_ones(self):
        letters = "aAbBcCdDeEfFgGhH"
        left = letters[0]
        right = letters[15]
        for place in range(1, 16):
            left = f"({left}|{letters[place]})"
            right = f"({letters[15 - place]}|{right})"
        for text in (left, right):
            self.assertEqual(text.count("|"), 15)
            self.assertEqual(ask(text, plain_rules.near(16)), [0])

    def test_eight_ones(self):
        letters = "aAbBcCdDeEfFgGhH"
        text = letters[0]
        for place in range(1, 16):
            text = "(" + text + ("|" if place % 2 else "*") + letters[place] + ")"
        self.assertEqual(ask(text, plain_rules.near(16)), [-6])
        self.assertEqual(ask(text.replace("|H", "*H"), plain_rules.near(16)), [0])


class AgainstPlainRules(unittest.TestCase):
    def test_all_small_texts_and_all_of_their_links(self):
        seen = {}
        for count in range(1, 5):
            rows = list(plain_rules.all_rows(0, count))
            for letters in itertools.product("aAbB", repeat=count):
                for links in plain_rules.all_links(letters):
                    for formulas in rows:
                        self.check(formulas, "".join(letters), links, seen)
        self.assertEqual(sorted(seen), [-6, 0, 1, 2, 3])

    def test_all_texts_of_six_letters_with_all_pairings(self):
        seen = {}
        for links in plain_rules.all_pairings(list(range(6))):
            for formulas in plain_rules.all_rows(0, 6):
                self.check(formulas, plain_rules.letters_for(links), links, seen)
        self.assertEqual(sorted(seen), [-6, 0, 1, 2, 3, 4, 5, 6, 7])

    def test_larger_texts_around_proofs(self):
        dice = random.Random(5)
        seen = {}
        for turn in range(900):
            formulas, links = plain_rules.place_in_order(plain_rules.grow_proof(dice, dice.randrange(4, 9)))
            formulas = plain_rules.swap_signs(dice, formulas)
            self.check(formulas, plain_rules.letters_for(links), links, seen)
        self.assertGreater(len(seen), 12)

    def check(self, formulas, letters, links, seen):
        expected = plain_rules.first_choice_without_tree(formulas, links)
        if expected is None:
            expected = -6
        text = plain_rules.write(formulas, letters)
        self.assertEqual(ask(text, links), [expected], (text, links))
        is_proof = net(plain_rules.as_bytes(text), list(links)) == [1]
        self.assertEqual(is_proof, expected == -6, (text, links))
        seen[expected] = seen.get(expected, 0) + 1


if __name__ == "__main__":
    unittest.main()
