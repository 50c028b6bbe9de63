"""The interface: names, arguments, kinds; nothing is printed, changed or kept."""

import contextlib
import inspect
import io
import unittest

from gaugeblocks import sizes

ARGUMENTS = {
    "unit": ["n"],
    "width": ["n", "g"],
    "code": ["n", "letter", "g"],
}
CALLS = [
    ("unit", (250000,)),
    ("unit", (0,)),
    ("width", (250000, 7)),
    ("width", (250000, 22)),
    ("code", (250000, 72, 7)),
    ("code", (250000, 103, 6)),
    ("code", (0, 72, 7)),
    ("code", (250000, 0, 7)),
    ("code", (1, 104, 0)),
]


def answer(call):
    return getattr(sizes, call[0])(*call[1])


class Interface(unittest.TestCase):
    def test_names_and_order_of_arguments(self):
        for name, arguments in ARGUMENTS.items():
            parameters = inspect.signature(getattr(sizes, name)).parameters
            self.assertEqual(list(parameters), arguments, name)
            for parameter in parameters.values():
                self.assertIs(parameter.kind, inspect.Parameter.POSITIONAL_OR_KEYWORD, name)
                self.assertIs(parameter.default, inspect.Parameter.empty, name)

    def test_arguments_by_name(self):
        for name, arguments in CALLS:
            named = dict(zip(ARGUMENTS[name], arguments))
            self.assertEqual(getattr(sizes, name)(**named), answer((name, arguments)), name)

    def test_lists_of_whole_numbers(self):
        for call in CALLS:
            result = answer(call)
            self.assertIs(type(result), list, call)
            for number in result:
                self.assertIs(type(number), int, call)

    def test_a_refusal_is_its_number_alone(self):
        for call in CALLS:
            result = answer(call)
            if result[0] < 0:
                self.assertEqual(len(result), 1, call)

    def test_nothing_is_kept(self):
        first = [answer(call) for call in CALLS]
        wanted = [list(result) for result in first]
        for result in first:
            result.append(99)
            result[0] = 99
        self.assertEqual([answer(call) for call in CALLS], wanted)
        backwards = [answer(call) for call in reversed(CALLS)]
        self.assertEqual(backwards, wanted[::-1])

    def test_nothing_is_printed(self):
        out = io.StringIO()
        with contextlib.redirect_stdout(out), contextlib.redirect_stderr(out):
            for call in CALLS:
                answer(call)
        self.assertEqual(out.getvalue(), "")


if __name__ == "__main__":
    unittest.main()
