"""Which links are a proof, as net tells it: 1 or 0."""

import itertools
import random
import unittest

import plain_rules
from linkgrounds.proofs import net


def ask(text, links):
    return net(plain_rules.as_bytes(text), list(links))


class Net(unittest.TestCase):
    def test_two_letters(self):
        self.assertEqual(ask("a,A", [1, 0]), [1])
        self.assertEqual(ask("A,a", [1, 0]), [1])
        self.assertEqual(ask("(a|A)", [1, 0]), [1])
        self.assertEqual(ask("(a*A)", [1, 0]), [0])

    def test_both_with_one_with_the_other(self):
        self.assertEqual(ask("(a*b),(A|B)", [2, 3, 0, 1]), [1])
        self.assertEqual(ask("(a|b),(A|B)", [2, 3, 0, 1]), [0])
        self.assertEqual(ask("(a*b),(A*B)", [2, 3, 0, 1]), [0])
        self.assertEqual(ask("(a|b),(A*B)", [2, 3, 0, 1]), [1])
        self.assertEqual(ask("((a*b)|(A|B))", [2, 3, 0, 1]), [1])
        self.assertEqual(ask("((a*b)*(A|B))", [2, 3, 0, 1]), [0])

    def test_letters_that_do_not_hang_together(self):
        self.assertEqual(ask("a,A,b,B", [1, 0, 3, 2]), [0])
        self.assertEqual(ask("(a|A),(b|B)", [1, 0, 3, 2]), [0])
        self.assertEqual(ask("((a|A)|(b|B))", [1, 0, 3, 2]), [0])
        self.assertEqual(ask("((a|A)*(b|B))", [1, 0, 3, 2]), [1])

    def test_links_of_one_text_differ(self):
        self.assertEqual(ask("(a*a),A,A", [2, 3, 0, 1]), [1])
        self.assertEqual(ask("(a*A),a,A", [1, 0, 3, 2]), [0])
        self.assertEqual(ask("(a*A),a,A", [3, 2, 1, 0]), [1])
        self.assertEqual(ask("((a|A)*(a|A))", [1, 0, 3, 2]), [1])
        self.assertEqual(ask("((a|A)*(a|A))", [3, 2, 1, 0]), [0])

    def test_one_with_the_other_waits_for_both(self):
        self.assertEqual(ask("((a|b)|c),(A*(B*C))", [3, 4, 5, 0, 1, 2]), [1])
        self.assertEqual(ask("(a|b),((A*c)*(B*C))", [2, 4, 0, 5, 1, 3]), [0])
        self.assertEqual(ask("(a|b),(A*c),(C*B)", [2, 5, 0, 4, 3, 1]), [1])

    def test_sixteen_letters_in_one_row(self):
        chain = "a,(A*b),(B*c),(C*d),(D*e),(E*f),(F*g),(G*h),H"
        self.assertEqual(ask(chain, plain_rules.near(16)), [1])
        self.assertEqual(ask(chain.replace("(E*f)", "(E|f)"), plain_rules.near(16)), [0])
        self.assertEqual(ask(chain.replace("(E*f)", "E,f"), plain_rules.near(16)), [0])
        pairs = ",".join(f"({letter}|{letter.upper()})" for letter in "abcdefgh")
        self.assertEqual(ask(pairs, plain_rules.near(16)), [0])

    def test_sixteen_letters_deep(self):
        several = "(((((((a*b)*c)*d)*e)*f)*g)*h),(A|(B|(C|(D|(E|(F|(G|H)))))))"
        far = [place ^ 8 for place in range(16)]
        self.assertEqual(ask(several, far), [1])
        parts = several.split(",")
        self.assertEqual(ask("(" + parts[0] + "|" + parts[1] + ")", far), [1])
        self.assertEqual(ask("(" + parts[0] + "*" + parts[1] + ")", far), [0])
        self.assertEqual(ask(parts[1] + "," + parts[0], far), [1])
        self.assertEqual(ask(several.replace("(G|H)", "(G*H)"), far), [0])
        self.assertEqual(ask(several.replace("(a*b)", "(a|b)").replace("(G|H)", "(G*H)"), far), [0])
        self.assertEqual(ask(several.replace("(a*b)", "(a|b)").replace("(A|", "(A*"), far), [0])

    def test_fifteen_brackets_deep(self):
        letters = "aAbBcCdDeEfFgGhH"
        text = letters[0]
        for place in range(1, 16):
            text = "(" + text + ("|" if place % 2 else "*") + letters[place] + ")"
        # Each pair is bracketed as ((..*x)|X), which has a proof with all that came before it.
        self.assertEqual(ask(text, plain_rules.near(16)), [1])
        self.assertEqual(ask(text.replace("|H", "*H"), plain_rules.near(16)), [0])
        self.assertEqual(ask(text.replace("*b", "|b").replace("|B", "*B"), plain_rules.near(16)), [0])


class AgainstPlainRules(unittest.TestCase):
    def test_all_small_texts_and_all_of_their_links(self):
        seen = {0: 0, 1: 0}
        for count in range(1, 5):
            rows = list(plain_rules.all_rows(0, count))
            for letters in itertools.product("aAbB", repeat=count):
                for links in plain_rules.all_links(letters):
                    for formulas in rows:
                        seen[self.check(formulas, "".join(letters), links)] += 1
        self.assertGreater(min(seen.values()), 100)

    def test_all_texts_of_six_letters_with_all_pairings(self):
        seen = {0: 0, 1: 0}
        for links in plain_rules.all_pairings(list(range(6))):
            for formulas in plain_rules.all_rows(0, 6):
                seen[self.check(formulas, plain_rules.letters_for(links), links)] += 1
        self.assertGreater(min(seen.values()), 100)

    def test_texts_of_eight_letters_around_proofs(self):
        dice = random.Random(8)
        for turn in range(400):
            formulas, links = plain_rules.place_in_order(plain_rules.grow_proof(dice, 4))
            self.check(formulas, plain_rules.letters_for(links), links)
            turns = (dice.random() < 0.3 for bracket in itertools.count())
            changed = [plain_rules.change_signs(formula, turns) for formula in formulas]
            self.check(changed, plain_rules.letters_for(links), links)

    def check(self, formulas, letters, links):
        expected = int(plain_rules.has_proof(formulas, links))
        text = plain_rules.write(formulas, letters)
        self.assertEqual(ask(text, links), [expected], (text, links))
        return expected


class LargeTexts(unittest.TestCase):
    def test_what_is_grown_by_the_rules_is_a_proof_in_any_order(self):
        dice = random.Random(16)
        for turn in range(1000):
            grown = plain_rules.grow_proof(dice, 8 if turn % 4 else dice.randrange(1, 8))
            for order in range(3):
                dice.shuffle(grown)
                formulas, links = plain_rules.place_in_order(grown)
                text = plain_rules.write(formulas, plain_rules.letters_for(links))
                self.assertEqual(ask(text, links), [1], (text, links))

    def test_no_proof_with_one_sign_changed(self):
        # A proof has one both less than pairs of letters, so a single sign changed always spoils it.
        dice = random.Random(17)
        for turn in range(100):
            formulas, links = plain_rules.place_in_order(plain_rules.grow_proof(dice, 8))
            brackets = plain_rules.write(formulas, "a" * 16).count("(")
            for changed in range(brackets):
                turns = iter([bracket == changed for bracket in range(brackets)])
                other = [plain_rules.change_signs(formula, turns) for formula in formulas]
                text = plain_rules.write(other, plain_rules.letters_for(links))
                self.assertEqual(ask(text, links), [0], (text, links))

    def test_against_the_graphs_of_all_choices(self):
        dice = random.Random(18)
        seen = {0: 0, 1: 0}
        for turn in range(300):
            formulas, links = plain_rules.place_in_order(plain_rules.grow_proof(dice, 8))
            formulas = plain_rules.swap_signs(dice, formulas)
            expected = int(plain_rules.every_choice_is_a_tree(formulas, links))
            seen[expected] += 1
            text = plain_rules.write(formulas, plain_rules.letters_for(links))
            self.assertEqual(ask(text, links), [expected], (text, links))
        self.assertGreater(min(seen.values()), 20)


if __name__ == "__main__":
    unittest.main()
