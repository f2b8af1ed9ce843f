"""The four calls on the same texts: what one answers fits what the others answer."""

import itertools
import random
import unittest

import plain_rules
from linkgrounds.proofs import count, first, net, why


class Together(unittest.TestCase):
    def test_all_short_rows_of_signs(self):
        texts = 0
        for length in range(7):
            for signs in itertools.product("aA(),*|", repeat=length):
                texts += self.check_refusals("".join(signs))
        self.assertGreater(texts, 10)

    def test_refusals_of_longer_rows(self):
        for text in ("a,A", "(a*A),(a|A)", ",".join("aA" * 8), "(" * 15 + "a" + "*A)" * 15):
            self.assertTrue(self.check_refusals(text))
            for at in range(len(text) + 1):
                self.check_refusals(text[:at])
                for sign in "aHiI(),*| \xff":
                    self.check_refusals(text[:at] + sign + text[at:])
        for text in (",".join("aA" * 8 + "a"), "(" * 16 + "a" + "*A)" * 16, "(" * 256, "a" * 256, "", "a" + " " * 255):
            self.assertFalse(self.check_refusals(text))
        for text in ("a" * 257, "(" * 257, "a,A" + " " * 254):
            given = plain_rules.as_bytes(text)
            self.assertEqual([net(given, []), why(given, []), first(given), count(given)], [[-1]] * 4)

    def test_all_small_texts(self):
        for letters_count in range(1, 5):
            rows = list(plain_rules.all_rows(0, letters_count))
            for letters in itertools.product("aAb", repeat=letters_count):
                for formulas in rows:
                    self.check_proofs(plain_rules.write(formulas, letters), "".join(letters))

    def test_texts_around_proofs(self):
        dice = random.Random(4)
        for turn in range(200):
            formulas, links = plain_rules.place_in_order(plain_rules.grow_proof(dice, dice.randrange(2, 6)))
            letters = plain_rules.letters_alike(dice, links, "aab")
            self.check_proofs(plain_rules.write(formulas, letters), letters)
            if sum(isinstance(part, tuple) for part in plain_rules.all_parts(formulas)) > 1:
                self.check_proofs(plain_rules.write(plain_rules.swap_signs(dice, formulas), letters), letters)

    def test_sixteen_letters(self):
        dice = random.Random(44)
        for turn in range(40):
            formulas, links = plain_rules.place_in_order(plain_rules.grow_proof(dice, 8))
            letters = plain_rules.letters_alike(dice, links, "aaab")
            self.check_first_and_count(plain_rules.as_bytes(plain_rules.write(formulas, letters)))
            other = plain_rules.write(plain_rules.swap_signs(dice, formulas), letters)
            self.check_first_and_count(plain_rules.as_bytes(other))

    def check_refusals(self, text):
        """Whether it's a text: all four tell the same."""
        given = plain_rules.as_bytes(text)
        # One link is never enough: a text answers -3.
        answers = [net(given, [0]), why(given, [0]), first(given), count(given)]
        if answers[0] == [-2]:
            self.assertEqual(answers, [[-2]] * 4, text)
            return False
        self.assertEqual(answers[:2], [[-3]] * 2, text)
        self.check_first_and_count(given)
        return True

    def check_proofs(self, text, letters):
        given = plain_rules.as_bytes(text)
        proofs = 0
        for links in plain_rules.all_links(letters):
            answer = net(given, links)
            self.assertIn(answer, ([0], [1]), (text, links))
            self.assertEqual(answer == [1], why(given, links) == [-6], (text, links))
            proofs += answer[0]
            if answer == [1] and proofs == 1:
                self.assertEqual(first(given), [len(links)] + links, text)
        self.assertEqual(count(given), [proofs], text)
        self.check_first_and_count(given)

    def check_first_and_count(self, given):
        found = first(given)
        self.assertEqual(count(given) == [0], found == [-6], given)
        if found != [-6]:
            self.assertEqual(found[0], len(found) - 1, given)
            self.assertEqual(net(given, found[1:]), [1], given)
            self.assertEqual(why(given, found[1:]), [-6], given)
            self.assertGreater(count(given)[0], 0, given)


if __name__ == "__main__":
    unittest.main()
