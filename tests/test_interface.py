"""What the interface asks of the calls beside their answers."""

import ast
import builtins
import contextlib
import copy
import inspect
import io
import pathlib
import unittest
from unittest import mock

import linkgrounds.proofs
import plain_rules
from linkgrounds.proofs import count, first, net, why

ARGUMENTS = (
    (net, ["text", "links"]),
    (why, ["text", "links"]),
    (first, ["text"]),
    (count, ["text"]),
)
# A text, links, what net answers of the two, and what why answers.
LOOKED_AT = (
    ("a,A", [1, 0], [1], [-6]),
    ("(a*A)", [1, 0], [0], [0]),
    ("(a*b),(A|B)", [2, 3, 0, 1], [1], [-6]),
    ("((b|a)*A),B", [3, 2, 1, 0], [0], [1]),
    ("((a|A)*(b|B)),c,C", [1, 0, 3, 2, 5, 4], [0], [0]),
    ("(c|((C*(b|a))*A)),B", [1, 0, 5, 4, 3, 2], [0], [2]),
    ("a,A", [], [-3], [-3]),
    ("a,A", [1, 1], [-3], [-3]),
    ("(a*A", [1, 0], [-2], [-2]),
    ("", [], [-2], [-2]),
    ("(" * 256, [], [-2], [-2]),
    ("a" * 257, [], [-1], [-1]),
    ("a,A", [0] * 17, [-1], [-1]),
)
# A text, what first answers of it, and what count answers.
LOOKED_FOR = (
    ("a,A", [2, 1, 0], [1]),
    ("(a*A)", [-6], [0]),
    ("(a*a),(A|A)", [4, 2, 3, 0, 1], [2]),
    ("(a*A),a,A", [4, 3, 2, 1, 0], [1]),
    ("((a*a)*a),A,A,A", [6, 3, 4, 5, 0, 1, 2], [6]),
    ("a", [-6], [0]),
    ("(a|A),", [-2], [-2]),
    ("", [-2], [-2]),
    ("(" * 256, [-2], [-2]),
    ("a" * 257, [-1], [-1]),
)


def all_calls():
    """Of each call the function, what is handed in (new lists), and the answer."""
    calls = []
    for text, links, net_answer, why_answer in LOOKED_AT:
        calls.append((net, [plain_rules.as_bytes(text), list(links)], net_answer))
        calls.append((why, [plain_rules.as_bytes(text), list(links)], why_answer))
    for text, first_answer, count_answer in LOOKED_FOR:
        calls.append((first, [plain_rules.as_bytes(text)], first_answer))
        calls.append((count, [plain_rules.as_bytes(text)], count_answer))
    return calls


class Untouchable(list):
    """A list that refuses to be changed, even for a while."""

    def refuse(self, *anything, **named):
        raise AssertionError("what was handed in is changed")

    append = clear = extend = insert = pop = remove = reverse = sort = refuse
    __setitem__ = __delitem__ = __iadd__ = __imul__ = refuse


class Interface(unittest.TestCase):
    def test_names_of_arguments(self):
        for function, names in ARGUMENTS:
            self.assertEqual(list(inspect.signature(function).parameters), names)
        self.assertEqual(net(text=[97, 44, 65], links=[1, 0]), [1])
        self.assertEqual(why(text=[97, 44, 65], links=[1, 0]), [-6])
        self.assertEqual(first(text=[97, 44, 65]), [2, 1, 0])
        self.assertEqual(count(text=[97, 44, 65]), [1])

    def test_answer_is_a_list_of_whole_numbers(self):
        for function, handed_in, expected in all_calls():
            answer = function(*handed_in)
            self.assertIs(type(answer), list)
            self.assertEqual([type(number) for number in answer], [int] * len(expected))
            self.assertEqual(answer, expected, (function, handed_in))

    def test_what_is_handed_in_is_not_changed(self):
        for function, handed_in, expected in all_calls():
            before = copy.deepcopy(handed_in)
            self.assertEqual(function(*handed_in), expected)
            self.assertEqual(handed_in, before)

    def test_what_is_handed_in_is_not_changed_for_a_while_either(self):
        for function, handed_in, expected in all_calls():
            self.assertEqual(function(*[Untouchable(numbers) for numbers in handed_in]), expected)

    def test_nothing_is_kept(self):
        def values():
            return {name: value for name, value in vars(linkgrounds.proofs).items() if not name.startswith("__")}

        before = copy.copy(values())
        for function, handed_in, expected in all_calls() + all_calls()[::-1]:
            answer = function(*handed_in)
            self.assertEqual(answer, expected)
            answer.append(7)
            self.assertEqual(function(*handed_in), expected)
        self.assertEqual(values(), before)
        for name, value in before.items():
            self.assertNotIsInstance(value, (list, dict, set), name)

    def test_same_answer_whatever_is_called_in_between(self):
        for function, handed_in, expected in all_calls():
            for other_function, other_handed_in, other_expected in all_calls():
                self.assertEqual(other_function(*other_handed_in), other_expected)
                self.assertEqual(function(*handed_in), expected)

    def test_nothing_is_printed_or_read(self):
        printed = io.StringIO()
        with contextlib.redirect_stdout(printed), contextlib.redirect_stderr(printed):
            with mock.patch.object(builtins, "open", side_effect=AssertionError("reads a file")):
                with mock.patch.object(builtins, "input", side_effect=AssertionError("reads input")):
                    for function, handed_in, expected in all_calls():
                        function(*handed_in)
        self.assertEqual(printed.getvalue(), "")

    def test_nothing_is_imported(self):
        tree = ast.parse(pathlib.Path(linkgrounds.proofs.__file__).read_text(encoding="utf-8"))
        imports = [node for node in ast.walk(tree) if isinstance(node, (ast.Import, ast.ImportFrom))]
        self.assertEqual(imports, [])


if __name__ == "__main__":
    unittest.main()
