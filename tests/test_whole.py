"""What the document promises over all six functions together."""

import inspect
import itertools
import pathlib
import subprocess
import sys
import unittest

import compasses
from compasses import reach
from tests.support import GREATEST, SMALLEST, Untouchable, mixed_radicands, mixed_row, whole_numbers, with_lists_as

ABOVE = pathlib.Path(__file__).resolve().parent.parent

PARAMETERS = {
    "sign": ["k", "d", "x"],
    "compare": ["k", "d", "x", "y"],
    "times": ["k", "d", "x", "y"],
    "square": ["k", "d", "x"],
    "polygon": ["n"],
    "root": ["p"],
}

# What each function may answer first.
ANSWERS = {
    "sign": (0, 1, 2, -2, -3),
    "compare": (0, 1, 2, -2, -3),
    "times": (0, -2),
    "square": (0, 1, -2, -3),
    "polygon": (0, 1, -2),
    "root": (0, 1, -2),
}

# Run by itself: tells of everything that is drawn in, read or started by the package and by calls of it.
WATCHED = """
import sys

seen = []
watching = False


def watch(event, arguments):
    if watching and not event.startswith("object."):
        seen.append((event, str(arguments)))


sys.addaudithook(watch)
drawn_in = set(sys.modules)
import compasses.reach as reach

print(sorted(set(sys.modules) - drawn_in))
watching = True
reach.sign(2, [2, 1, 1], [1, -1, 2, 0])
reach.compare(1, [2], [1, 1], [3, -1])
reach.times(3, [1] * 7, [2] * 8, [3] * 8)
reach.square(2, [2, 3, 0], [2, 0, 1, 0])
reach.polygon(65537)
reach.root([-1, -1, 0, 0, 1])
reach.root([1, 0, -10, 0, 1])
reach.root([])
watching = False
print(seen)
print(sorted(set(sys.modules) - drawn_in))
"""


def calls():
    """Give calls of all functions, ordinary ones and refused ones, mixed with one another."""
    numbers = whole_numbers(51)
    rows = []
    for turn in range(120):
        k = turn % 4
        d = mixed_radicands(numbers, k, 6)
        x, y = mixed_row(numbers, 2 ** k, 9), mixed_row(numbers, 2 ** k, 9)
        rows += [("sign", (k, d, x)), ("compare", (k, d, x, y)), ("times", (k, d, x, y)), ("square", (k, d, x))]
        rows.append(("polygon", (next(numbers) % 70,)))
        rows.append(("root", (mixed_row(numbers, 3 + turn % 4, 3),)))
    for name, parameters in PARAMETERS.items():
        for part in (SMALLEST, GREATEST, 0, 1):
            rows.append((name, tuple(part if letter in "kn" else [part] * 20 for letter in parameters)))
            rows.append((name, tuple(part if letter in "kn" else [] for letter in parameters)))
    rows += [("sign", (1, [4], [2, -1])), ("compare", (1, [4], [2, 1], [0, 2])), ("square", (1, [2], [3, 2]))]
    rows += [("polygon", (n,)) for n in (1, 2, 17, 1000000000, 1000000001)]
    rows += [("root", (p,)) for p in ([-2, 0, 0, 1], [-8, 0, 0, 1], [1, 0, -10, 0, 1], [1, 0, 0, 0, 1])]
    return rows


def answer_of(call):
    name, arguments = call
    return getattr(reach, name)(*arguments)


class TheInterface(unittest.TestCase):
    def test_names_and_arguments(self):
        self.assertEqual(compasses.__name__, "compasses")
        for name, parameters in PARAMETERS.items():
            signature = inspect.signature(getattr(reach, name))
            self.assertEqual(list(signature.parameters), parameters)
            for parameter in signature.parameters.values():
                self.assertIs(parameter.default, inspect.Parameter.empty)
                self.assertIs(parameter.kind, inspect.Parameter.POSITIONAL_OR_KEYWORD)

    def test_arguments_by_their_names(self):
        for name, arguments in calls():
            by_name = dict(zip(PARAMETERS[name], arguments))
            self.assertEqual(getattr(reach, name)(**by_name), answer_of((name, arguments)))

    def test_one_call_of_each(self):
        self.assertEqual(reach.sign(1, [2], [-1, 1]), [2])
        self.assertEqual(reach.compare(1, [2], [1, 1], [3, 0]), [0])
        self.assertEqual(reach.times(1, [2], [1, 1], [1, 1]), [0, 3, 2])
        self.assertEqual(reach.square(1, [2], [3, 2]), [1])
        self.assertEqual(reach.polygon(17), [1])
        self.assertEqual(reach.root([-2, 0, 0, 1]), [0])


class EachCallByItself(unittest.TestCase):
    def test_in_any_order_and_twice(self):
        first = calls()
        answers = {i: answer_of(call) for i, call in enumerate(first)}
        forward = range(len(first))
        by_name = sorted(forward, key=lambda i: first[i][0])
        mixed = sorted(forward, key=lambda i: i * 7919 % 1009)
        for order in (forward, reversed(forward), by_name, mixed, by_name[::-1]):
            for i in order:
                self.assertEqual(answer_of(first[i]), answers[i], first[i])
        for i in forward:
            self.assertEqual([answer_of(first[i]), answer_of(first[i])], [answers[i]] * 2, first[i])

    def test_the_same_as_in_a_new_start(self):
        picked = calls()[::29]
        for call in picked:
            program = f"from compasses import reach\nprint(reach.{call[0]}(*{call[1]!r}))"
            self.assertEqual(self.run_alone(program), f"{answer_of(call)}\n")

    def test_the_module_is_as_it_was(self):
        before = {name: repr(value) for name, value in vars(reach).items() if not name.startswith("__")}
        for call in calls():
            answer_of(call)
        after = {name: repr(value) for name, value in vars(reach).items() if not name.startswith("__")}
        self.assertEqual(before, after)

    def test_only_the_package_is_drawn_in_and_nothing_is_read(self):
        self.assertEqual(self.run_alone(WATCHED), "['compasses', 'compasses.reach']\n[]\n"
                                                  "['compasses', 'compasses.reach']\n")

    def run_alone(self, program):
        """Give what the program prints in a Python of its own, where it may print nothing beside."""
        result = subprocess.run([sys.executable, "-B", "-c", program], cwd=ABOVE, capture_output=True, text=True)
        self.assertEqual((result.returncode, result.stderr), (0, ""))
        return result.stdout


class Rows(unittest.TestCase):
    def test_answers_are_new_lists_of_whole_numbers(self):
        for call in calls():
            answer = answer_of(call)
            again = answer_of(call)
            self.assertIs(type(answer), list, call)
            self.assertIsNot(answer, again, call)
            for number in answer:
                self.assertIs(type(number), int, call)
            self.assertIn(answer[0], ANSWERS[call[0]], call)
            more = 2 ** call[1][0] if call[0] == "times" and answer[0] == 0 else 0
            self.assertEqual(len(answer), 1 + more, call)

    def test_all_answers_come(self):
        seen = {(call[0], answer_of(call)[0]) for call in calls()}
        for name, answers in ANSWERS.items():
            for answer in answers:
                self.assertIn((name, answer), seen)

    def test_what_is_handed_in_is_not_changed(self):
        for (name, arguments), (same_name, copies) in zip(calls(), calls()):
            answer = answer_of((name, arguments))
            self.assertEqual(arguments, copies)
            self.assertEqual(answer_of((name, with_lists_as(Untouchable, arguments))), answer)

    def test_one_list_for_several_arguments(self):
        for k, part in itertools.product(range(4), (1, -2, 0)):
            d, x = [2] * (2 ** k - 1), [part] * 2 ** k
            for function in (reach.compare, reach.times):
                self.assertEqual(function(k, d, x, x), function(k, d, x, list(x)))

    def test_an_answer_does_not_hang_together_with_what_was_handed_in(self):
        x, y = [1, 1], [3, -1]
        answer = reach.times(1, [2], x, y)
        x[0] = y[0] = 9
        self.assertEqual(answer, [0, 1, 2])
        answer[0] = 9
        self.assertEqual((x, y), ([9, 1], [9, -1]))


if __name__ == "__main__":
    unittest.main()
