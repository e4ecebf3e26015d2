"""The interface: the names, the form of what is answered, and nothing besides."""

import ast
import contextlib
import inspect
import io
import unittest

from stepdigits import digits

# Each function with its parameters, calls that are answered and calls that are refused.
# The numbers 0 and 1 are answered too: they would equal False and True.
FUNCTIONS = (
    (
        "element_at",
        ["index", "radices"],
        ((3, [2, 3]), (0, [1]), (0, [2, 3]), (1, [2, 3])),
        ((6, [2, 3]), (0, [])),
    ),
    (
        "index_of",
        ["radices", "element"],
        (([2, 3], [1, 0]), ([1], [0]), ([2, 3], [0, 0]), ([2, 3], [0, 1])),
        (([2, 3], [1, 3]), ([], [])),
    ),
    (
        "successor",
        ["radices", "element"],
        (([2, 3], [0, 2]), ([2], [0]), ([2, 3], [1, 2]), ([2, 3, 2], [1, 1, 1])),
        (([2, 3], [1, 0]), ([2, 3], [1, 3]), ([], [])),
    ),
    (
        "last_element",
        ["radices"],
        (([2, 3],), ([1],), ([2],), ([1, 1, 1, 1, 1],), ([6, 6, 6, 6, 6],)),
        (([],), ([2, 7],)),
    ),
    (
        "count_changes",
        ["digit", "steps", "radices"],
        ((1, 2, [2, 3]), (0, 0, [1]), (0, 3, [2, 3]), (1, 5, [2, 3]), (1, 1, [2, 1])),
        ((2, 0, [2, 3]), (0, 6, [2, 3]), (0, 0, [])),
    ),
    (
        "distance",
        ["radices", "first", "second"],
        (([2, 3], [0, 0], [1, 0]), ([1], [0], [0]), ([2, 3], [0, 1], [0, 2]), ([2, 3], [1, 2], [0, 2])),
        (([2, 3], [2, 0], [0, 0]), ([2, 3], [0, 0], [0]), ([], [], [])),
    ),
)


def kept_in_module():
    """What the module holds, without what Python itself puts there."""
    return {name: repr(kept) for name, kept in vars(digits).items() if not name.startswith("__")}


class Interface(unittest.TestCase):
    def test_parameters(self):
        for name, parameters, _, _ in FUNCTIONS:
            found = inspect.signature(getattr(digits, name)).parameters
            self.assertEqual(list(found), parameters)
            for parameter in found.values():
                self.assertIs(parameter.default, inspect.Parameter.empty)

    def test_call_by_names(self):
        for name, parameters, answered, _ in FUNCTIONS:
            function = getattr(digits, name)
            named = dict(zip(parameters, answered[0], strict=True))
            self.assertEqual(function(**named), function(*answered[0]))

    def test_answer_is_one_list_of_whole_numbers(self):
        for name, _, answered, refused in FUNCTIONS:
            for asked in answered + refused:
                answer = getattr(digits, name)(*asked)
                self.assertIs(type(answer), list)
                self.assertEqual({type(number) for number in answer}, {int})

    def test_only_a_refusal_is_below_0_and_it_stands_alone(self):
        for name, _, answered, refused in FUNCTIONS:
            for asked in answered:
                self.assertGreaterEqual(min(getattr(digits, name)(*asked)), 0)
            for asked in refused:
                answer = getattr(digits, name)(*asked)
                self.assertEqual(len(answer), 1)
                self.assertLess(answer[0], 0)

    def test_prints_nothing_and_keeps_nothing(self):
        before = kept_in_module()
        printed = io.StringIO()
        with contextlib.redirect_stdout(printed), contextlib.redirect_stderr(printed):
            for name, _, answered, refused in FUNCTIONS:
                for asked in answered + refused:
                    getattr(digits, name)(*asked)
        self.assertEqual(printed.getvalue(), "")
        self.assertEqual(kept_in_module(), before)

    def test_imports_and_reads_nothing(self):
        with open(digits.__file__, encoding="ascii") as source:
            nodes = list(ast.walk(ast.parse(source.read())))
        self.assertEqual([n for n in nodes if isinstance(n, (ast.Import, ast.ImportFrom))], [])
        names = {n.id for n in nodes if isinstance(n, ast.Name)}
        self.assertEqual(names & {"open", "input", "print", "__import__", "eval", "exec"}, set())
