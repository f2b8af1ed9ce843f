"""What the interface asks of net beside its answers."""

import ast
import builtins
import contextlib
import copy
import inspect
import io
import pathlib
import unittest
from unittest import mock

import linkgrounds.proofs
import plain_rules
from linkgrounds.proofs import net

CALLS = (
    ("a,A", [1, 0], -3, 1),
    ("(a*A)", [1, 0], -3, 0),
    ("(a*b),(A|B)", [2, 3, 0, 1], -3, 1),
    ("((a|A)*(b|B)),c,C", [1, 0, 3, 2, 5, 4], -3, 0),
    ("a,A", [1, 1], -3, -3),
    ("(a*A", [1, 0], -2, -2),
    ("", [], -2, -2),
    ("(" * 256, [], -2, -2),
    ("a" * 257, [], -1, -1),
    ("a,A", [0] * 17, -3, -1),
)


class Untouchable(list):
    """A list that refuses to be changed, even for a while."""

    def refuse(self, *anything, **named):
        raise AssertionError("what was handed in is changed")

    append = clear = extend = insert = pop = remove = reverse = sort = refuse
    __setitem__ = __delitem__ = __iadd__ = __imul__ = refuse


class Interface(unittest.TestCase):
    def test_names_of_arguments(self):
        self.assertEqual(list(inspect.signature(net).parameters), ["text", "links"])
        self.assertEqual(net(text=[97, 44, 65], links=[1, 0]), [1])

    def test_answer_is_a_list_with_one_whole_number(self):
        for text, links, without, expected in CALLS:
            for numbers, number in ((links, expected), ([], without)):
                answer = net(plain_rules.as_bytes(text), list(numbers))
                self.assertIs(type(answer), list)
                self.assertEqual([type(one) for one in answer], [int])
                self.assertEqual(answer, [number], (text, numbers))

    def test_what_is_handed_in_is_not_changed(self):
        for text, links, without, expected in CALLS:
            bytes_before = plain_rules.as_bytes(text)
            given_text = list(bytes_before)
            given_links = list(links)
            self.assertEqual(net(given_text, given_links), [expected])
            self.assertEqual(given_text, bytes_before)
            self.assertEqual(given_links, links)

    def test_what_is_handed_in_is_not_changed_for_a_while_either(self):
        for text, links, without, expected in CALLS:
            self.assertEqual(net(Untouchable(plain_rules.as_bytes(text)), Untouchable(links)), [expected])

    def test_nothing_is_kept(self):
        def values():
            return {name: value for name, value in vars(linkgrounds.proofs).items() if not name.startswith("__")}

        before = copy.copy(values())
        for repeated in range(2):
            for text, links, without, expected in CALLS + CALLS[::-1]:
                first_answer = net(plain_rules.as_bytes(text), list(links))
                self.assertEqual(first_answer, [expected])
                first_answer.append(7)
                self.assertEqual(net(plain_rules.as_bytes(text), list(links)), [expected])
        self.assertEqual(values(), before)
        for name, value in before.items():
            self.assertNotIsInstance(value, (list, dict, set), name)

    def test_nothing_is_printed_or_read(self):
        printed = io.StringIO()
        with contextlib.redirect_stdout(printed), contextlib.redirect_stderr(printed):
            with mock.patch.object(builtins, "open", side_effect=AssertionError("reads a file")):
                with mock.patch.object(builtins, "input", side_effect=AssertionError("reads input")):
                    for text, links, without, expected in CALLS:
                        net(plain_rules.as_bytes(text), list(links))
        self.assertEqual(printed.getvalue(), "")

    def test_nothing_is_imported(self):
        tree = ast.parse(pathlib.Path(linkgrounds.proofs.__file__).read_text(encoding="utf-8"))
        imports = [node for node in ast.walk(tree) if isinstance(node, (ast.Import, ast.ImportFrom))]
        self.assertEqual(imports, [])


if __name__ == "__main__":
    unittest.main()
