"""What numbers are links of a text, as net tells it: -3, or 0 or 1; and which refusal comes first."""

import itertools
import unittest

import plain_rules
from linkgrounds.proofs import net


def ask(text, links):
    return net(plain_rules.as_bytes(text), list(links))


class Links(unittest.TestCase):
    def assert_no_links(self, text, *rows):
        for links in rows:
            self.assertEqual(ask(text, links), [-3], (text, links))

    def test_links(self):
        self.assertEqual(ask("a,A", [1, 0]), [1])
        self.assertEqual(ask("A,a", [1, 0]), [1])
        self.assertIn(ask("h,b,H,B", [2, 3, 0, 1]), ([0], [1]))

    def test_too_few_and_too_many(self):
        self.assert_no_links("a,A", [], [1], [1, 0, 2], [1, 0, 3, 2], [1, 0] * 8)
        self.assert_no_links("a", [], [0], [1], [1, 0])
        self.assert_no_links("a,A,b,B", [1, 0], [1, 0, 3], [1, 0, 3, 2, 4])

    def test_no_place(self):
        self.assert_no_links("a,A", [2, 0], [1, 2], [2, 2], [255, 0], [1, 255], [255, 255], [1, 16])
        self.assert_no_links("a,A,a,A", [3, 2, 1, 4], [1, 0, 3, 128])

    def test_place_linked_to_itself(self):
        self.assert_no_links("a,A", [0, 1], [0, 0], [1, 1])
        self.assert_no_links("a,A,b,B", [1, 0, 2, 3], [0, 1, 3, 2])

    def test_link_not_answered(self):
        self.assert_no_links("a,A,a,A", [1, 2, 3, 0], [3, 0, 1, 2], [1, 0, 3, 0], [1, 0, 1, 2], [1, 0, 1, 0])

    def test_different_letters(self):
        self.assert_no_links("a,B", [1, 0])
        self.assert_no_links("(a|H)", [1, 0])
        self.assert_no_links("a,A,b,B", [3, 2, 1, 0], [2, 3, 0, 1])

    def test_both_turned_or_neither(self):
        self.assert_no_links("a,a", [1, 0])
        self.assert_no_links("A,A", [1, 0])
        self.assert_no_links("a,A,a,A", [2, 3, 0, 1])

    def test_each_pair_of_letters(self):
        signs = plain_rules.PLAIN + plain_rules.TURNED
        for one, other in itertools.product(signs, signs):
            expected = [1] if one != other and one.lower() == other.lower() else [-3]
            self.assertEqual(ask(one + "," + other, [1, 0]), expected, one + other)

    def test_all_rows_of_numbers(self):
        texts = ("a", "a,A", "a,a", "(a*A),a", "(a*A),(A|a)", "a,(b|A),B", "(a|(A*b)),A")
        for text in texts:
            letters = plain_rules.letters_of(text)
            for count in range(len(letters) + 2):
                for numbers in itertools.product(range(len(letters) + 1), repeat=count):
                    refused = ask(text, numbers) == [-3]
                    self.assertEqual(refused, not plain_rules.are_links(letters, numbers), (text, numbers))

    def test_sixteen_links(self):
        text = ",".join("aAbBcCdDeEfFgGhH")
        near = [place ^ 1 for place in range(16)]
        self.assertEqual(ask(text, near), [0])
        for place in range(16):
            for number in set(range(18)) - {near[place]}:
                self.assert_no_links(text, near[:place] + [number] + near[place + 1:])
        self.assert_no_links(text, near[:15], [])


class OrderOfRefusals(unittest.TestCase):
    def test_too_many_bytes(self):
        for text in ("a" * 257, "a,A" + " " * 254, "(" * 257, "(" * 1000, "a," * 200):
            for links in ([], [1, 0], [0] * 16, [0] * 17):
                self.assertEqual(ask(text, links), [-1])

    def test_too_many_links(self):
        for text in ("a,A", "", "a*", ",".join("aA" * 8), " " * 256):
            self.assertEqual(ask(text, [1, 0] + [0] * 15), [-1])
            self.assertEqual(ask(text, [255] * 20), [-1])

    def test_most_bytes_and_most_links_are_looked_at(self):
        self.assertEqual(ask("a" * 256, [0] * 16), [-2])
        self.assertEqual(ask("a,A", [1, 0] + [0] * 14), [-3])

    def test_no_text_comes_before_no_links(self):
        for text in ("", " ", "a*A", "i,I", "(a|A", "a,A,", ",".join("a" * 17)):
            for links in ([], [0], [1, 0], [1, 1], [255, 255], [9] * 16):
                self.assertEqual(ask(text, links), [-2], (text, links))


if __name__ == "__main__":
    unittest.main()
