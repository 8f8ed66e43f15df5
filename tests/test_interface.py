"""What the interface says of every call: kinds, nothing changed, nothing kept, nothing printed or read."""

import ast
import contextlib
import importlib.util
import inspect
import io
import pathlib
import sys
import unittest
from unittest import mock

import hedgeways.gardens
from hedgeways.gardens import ends, far, longest, perfect, room, rooms, way
from tests.drawings import draw, scattered, snake_hedges

PACKAGE = pathlib.Path(hedgeways.gardens.__file__).resolve().parent

GARDENS = (
    draw(1, 1, ()),
    draw(3, 2, (0, 5)),
    draw(10, 10, ()),
    draw(10, 10, range(180)),
    draw(10, 10, snake_hedges()),
    draw(7, 9, scattered(7, 9, 1, 4)),
    [],
    [43] * 1024,
    [43] * 1025,
    list(range(256)) * 4,
    [0] * 1100,
)

NUMBERS = (0, 5, 8, 100, 4294967295)

# How many numbers are told behind the 0, where that is the same for every garden.
TOLD = {rooms: 3, room: 1, perfect: 1, far: 1, longest: 3}

ARGUMENTS = {
    "rooms": ["garden"],
    "room": ["s", "garden"],
    "perfect": ["garden"],
    "far": ["s", "u", "garden"],
    "way": ["s", "u", "garden"],
    "ends": ["garden"],
    "longest": ["garden"],
}

CALLS = [(call, (garden,)) for garden in GARDENS for call in (rooms, perfect, ends, longest)]
CALLS += [(room, (s, garden)) for garden in GARDENS for s in NUMBERS]
CALLS += [(call, (s, u, garden)) for garden in GARDENS for s in NUMBERS for u in NUMBERS for call in (far, way)]


class Watched(list):
    """A list that refuses to be changed, for however short a while."""

    def refuse(self, *args, **kwargs):
        raise AssertionError("what was handed in was changed")

    append = clear = extend = insert = pop = remove = reverse = sort = refuse
    __setitem__ = __delitem__ = __iadd__ = __imul__ = refuse


def depth():
    frame, found = sys._getframe(), 0
    while frame is not None:
        frame, found = frame.f_back, found + 1
    return found


def all_seven(s, u, garden):
    return [rooms(garden), room(s, garden), perfect(garden), far(s, u, garden), way(s, u, garden), ends(garden),
            longest(garden)]


def first_answer(call, handed):
    """What is answered by a package that was never asked before."""
    spec = importlib.util.spec_from_file_location("asked_once", hedgeways.gardens.__file__)
    module = importlib.util.module_from_spec(spec)
    spec.loader.exec_module(module)
    return getattr(module, call.__name__)(*handed)


def answers():
    return [call(*handed) for call, handed in CALLS]


class Interface(unittest.TestCase):
    def test_names_and_arguments(self):
        for name, arguments in ARGUMENTS.items():
            call = getattr(hedgeways.gardens, name)
            parameters = inspect.signature(call).parameters
            self.assertEqual(list(parameters), arguments, name)
            for parameter in parameters.values():
                self.assertIs(parameter.kind, inspect.Parameter.POSITIONAL_OR_KEYWORD, name)
                self.assertIs(parameter.default, inspect.Parameter.empty, name)

    def test_arguments_by_name(self):
        garden = draw(3, 1, (0,))
        self.assertEqual(rooms(garden=garden), [0, 2, 0, 0])
        self.assertEqual(room(s=1, garden=garden), [0, 1])
        self.assertEqual(perfect(garden=garden), [0, 0])
        self.assertEqual(far(s=1, u=2, garden=garden), [0, 1])
        self.assertEqual(way(s=2, u=1, garden=garden), [0, 2, 1])
        self.assertEqual(ends(garden=garden), [0, 1, 2])
        self.assertEqual(longest(garden=garden), [0, 1, 1, 2])

    def test_answers_are_lists_of_whole_numbers(self):
        for answer in answers():
            self.assertIs(type(answer), list)
            for number in answer:
                self.assertIs(type(number), int)

    def test_how_many_numbers_are_answered(self):
        for (call, handed), answer in zip(CALLS, answers()):
            if answer[0] < 0:
                self.assertEqual(len(answer), 1)
            elif call in TOLD:
                self.assertEqual(len(answer), 1 + TOLD[call])

    def test_nothing_handed_in_is_changed(self):
        for call, handed in CALLS:
            garden = handed[-1]
            before = list(garden)
            call(*handed)
            self.assertEqual(garden, before)

    def test_nothing_handed_in_is_changed_for_a_while(self):
        for call, handed in CALLS:
            self.assertEqual(call(*handed[:-1], Watched(handed[-1])), call(*handed))

    def test_nothing_is_kept(self):
        first = answers()
        self.assertEqual(answers(), first)
        backwards = [call(*handed) for call, handed in reversed(CALLS)]
        self.assertEqual(backwards[::-1], first)

    def test_each_answer_is_as_if_for_the_first_time(self):
        # Calls of all kinds with several gardens by turns: 389 shares no divisor with how many there are.
        turns = [CALLS[389 * k % len(CALLS)] for k in range(2 * len(CALLS))]
        self.assertEqual({call.__name__ for call, handed in turns}, set(ARGUMENTS))
        told = [call(*handed) for call, handed in turns]
        for (call, handed), answer in zip(turns, told):
            self.assertEqual(answer, first_answer(call, handed), (call, handed))

    def test_several_gardens_by_turns(self):
        row, split, ring = draw(3, 1, ()), draw(3, 1, (1,)), draw(2, 2, ())
        for turn in range(20):
            self.assertEqual(all_seven(0, 2, row), [
                [0, 1, 0, 0], [0, 0], [0, 1], [0, 2], [0, 0, 1, 2], [0, 0, 2], [0, 2, 0, 2]])
            self.assertEqual(all_seven(0, 2, split), [
                [0, 2, 0, 0], [0, 0], [0, 0], [-5], [-5], [0, 0, 1], [0, 1, 0, 1]])
            self.assertEqual(all_seven(3, 0, ring), [
                [0, 1, 1, 1], [0, 0], [0, 0], [0, 2], [0, 3, 1, 0], [0], [0, 2, 0, 3]])
            self.assertEqual(all_seven(3, 0, split), [
                [0, 2, 0, 0], [-4], [0, 0], [-4], [-4], [0, 0, 1], [0, 1, 0, 1]])
            self.assertEqual(all_seven(3, 0, row[1:]), [[-6]] * 7)
            self.assertEqual(all_seven(3, 0, row * 50), [[-2]] * 7)

    def test_an_answer_that_is_changed_does_not_change_the_next(self):
        first = answers()
        for answer in answers():
            answer.append(7)
            answer[0] = 99
        self.assertEqual(answers(), first)

    def test_a_list_that_is_changed_between_calls_is_read_anew(self):
        garden = draw(2, 1, ())
        self.assertEqual(all_seven(1, 0, garden),
                         [[0, 1, 0, 0], [0, 0], [0, 1], [0, 1], [0, 1, 0], [0, 0, 1], [0, 1, 0, 1]])
        garden[garden.index(124) + 2] = 124
        self.assertEqual(all_seven(1, 0, garden),
                         [[0, 2, 0, 0], [0, 1], [0, 0], [-5], [-5], [0], [0, 0, 0, 0]])
        garden.pop()
        self.assertEqual(all_seven(1, 0, garden), [[-6]] * 7)

    def test_nothing_is_printed_read_or_imported(self):
        refuse = mock.Mock(side_effect=AssertionError("not asked for"))
        out, err = io.StringIO(), io.StringIO()
        with contextlib.redirect_stdout(out), contextlib.redirect_stderr(err):
            with mock.patch("builtins.open", refuse), mock.patch("builtins.input", refuse), \
                    mock.patch("builtins.__import__", refuse), mock.patch("sys.stdin", None):
                answers()
        self.assertEqual((out.getvalue(), err.getvalue()), ("", ""))

    def test_what_is_as_long_as_its_input_is_gone_through_by_loops(self):
        expected = answers()
        before = sys.getrecursionlimit()
        sys.setrecursionlimit(depth() + 50)
        try:
            again = answers()
        finally:
            sys.setrecursionlimit(before)
        self.assertEqual(again, expected)


class Readme(unittest.TestCase):
    def test_what_the_examples_answer(self):
        text = (PACKAGE.parent / "README.md").read_text("utf-8")
        code = text.split("```python\n")[1].split("```")[0]
        names = {}
        exec(code, names)
        shown = [line.split("#") for line in code.splitlines() if "#" in line]
        self.assertEqual({call.split("(")[0] for call, answer in shown}, set(ARGUMENTS))
        for call, answer in shown:
            self.assertEqual(eval(call, names), ast.literal_eval(answer.strip()), call)


class Form(unittest.TestCase):
    """The plainest of LANGUAGE.md's rules, so that a slip shows at once."""

    def setUp(self):
        self.texts = {path.name: path.read_text("utf-8") for path in PACKAGE.rglob("*.py")}

    def test_package_holds_plain_files_alone(self):
        for path in PACKAGE.rglob("*"):
            if "__pycache__" not in path.parts:
                self.assertTrue(path.is_dir() or path.suffix == ".py", path)

    def test_signs_and_sizes(self):
        for name, text in self.texts.items():
            self.assertLessEqual(text.count("\n"), 400, name)
            for line in text.split("\n"):
                self.assertLessEqual(len(line), 120, name)
                self.assertTrue(all(" " <= sign <= "~" for sign in line), name)

    def test_functions_are_small(self):
        for name, text in self.texts.items():
            for node in ast.walk(ast.parse(text)):
                if isinstance(node, ast.FunctionDef):
                    self.assertLessEqual(node.end_lineno - node.lineno + 1, 40, (name, node.name))

    def test_imports_are_the_packages_own(self):
        for name, text in self.texts.items():
            for node in ast.walk(ast.parse(text)):
                self.assertNotIsInstance(node, ast.Import, name)
                if isinstance(node, ast.ImportFrom):
                    self.assertEqual(node.level, 0, name)
                    self.assertTrue(node.module.startswith("hedgeways."), name)


if __name__ == "__main__":
    unittest.main()
