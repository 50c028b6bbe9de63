"""The interface: names, arguments, kinds; nothing is printed, changed or kept."""

import contextlib
import copy
import inspect
import io
import unittest

from gaugeblocks import sizes
from reference import SIX_LINES, as_bytes

ARGUMENTS = {
    "unit": ["n"],
    "width": ["n", "g"],
    "code": ["n", "letter", "g"],
    "read": ["text"],
    "write": ["n", "lo", "hi", "form", "letter", "grade"],
    "fit": ["hole", "shaft"],
    "inside": ["n", "lo", "hi", "hole"],
    "box": ["box"],
    "again": ["box"],
    "true_of": ["f", "box", "row"],
    "stack": ["f", "z", "box", "barred"],
    "next_of": ["f", "z", "up", "box", "barred"],
    "gap": ["first", "to", "by", "box", "barred"],
}
SIX = as_bytes(SIX_LINES)
CALLS = [
    ("unit", (250000,)),
    ("unit", (0,)),
    ("width", (250000, 7)),
    ("width", (250000, 22)),
    ("code", (250000, 72, 7)),
    ("code", (250000, 103, 6)),
    ("code", (0, 72, 7)),
    ("code", (250000, 0, 7)),
    ("code", (1, 104, 0)),
    ("read", (as_bytes("25"),)),
    ("read", (as_bytes("25 +-0.05"),)),
    ("read", (as_bytes("25 +0.02 -0.01"),)),
    ("read", (as_bytes("25 H7"),)),
    ("read", ([],)),
    ("read", ([255] * 64,)),
    ("read", ([49] * 100,)),
    ("read", (as_bytes("25 +0.01 +0.02"),)),
    ("write", (250000, 0, 0, 0, 0, 0)),
    ("write", (250000, -500, 500, 1, 0, 0)),
    ("write", (250000, -100, 200, 2, 0, 0)),
    ("write", (250000, 0, 159, 3, 72, 7)),
    ("write", (250000, 0, 159, 4, 72, 7)),
    ("fit", (as_bytes("25 H7"), as_bytes("25 g6"))),
    ("fit", (as_bytes("25 +-1"), as_bytes("25 +-1"))),
    ("fit", (as_bytes("25"), as_bytes("26"))),
    ("fit", ([49] * 65, as_bytes("25 g6"))),
    ("fit", (as_bytes("25 H7"), as_bytes("25 "))),
    ("inside", (250000, -168, -56, 0)),
    ("inside", (250000, 0, 159, 4294967295)),
    ("inside", (250000, 1, 0, 0)),
    ("inside", (250000, 0, 0, 0)),
    ("box", (SIX,)),
    ("box", ([],)),
    ("box", ([49] * 4300,)),
    ("box", (as_bytes("1\n1 h7\n"),)),
    ("again", (SIX,)),
    ("again", (as_bytes("1 +0 +0\n1 +0.1 -0.1\n"),)),
    ("again", (as_bytes("1"),)),
    ("again", ([49] * 4097,)),
    ("true_of", (1, SIX, [0, 1, 2, 4, 5])),
    ("true_of", (1, SIX, [5, 4])),
    ("true_of", (1001, SIX, [])),
    ("true_of", (1, [], [0])),
    ("stack", (1, 331100, SIX, [])),
    ("stack", (1, 31000, SIX, [5, 0, 5, 4294967295])),
    ("stack", (1, 0, SIX, [3])),
    ("stack", (1001, 31000, SIX, [3])),
    ("stack", (1, 31000, [10], [3])),
    ("next_of", (1, 30500, 0, SIX, [])),
    ("next_of", (1, 30500, 1, SIX, [2, 2, 1])),
    ("next_of", (1, 0, 0, SIX, [2])),
    ("next_of", (1001, 0, 0, SIX, [2])),
    ("next_of", (1, 0, 0, [49] * 4300, [2])),
    ("gap", (10000, 40000, 10000, SIX, [])),
    ("gap", (10000, 40000, 10000, SIX, [5, 3, 3, 4294967295])),
    ("gap", (10000, 9999, 10000, SIX, [])),
    ("gap", (10000, 40000, 0, SIX, [])),
    ("gap", (10000, 40000, 1, as_bytes("1\n2"), [])),
]


class Sealed(list):
    """A list that can't be changed, not for a while either."""

    def refuse(self, *arguments, **named):
        raise AssertionError("a list that was handed in is changed")

    append = clear = extend = insert = pop = remove = reverse = sort = refuse
    __setitem__ = __delitem__ = __iadd__ = __imul__ = refuse


def answer(call):
    return getattr(sizes, call[0])(*call[1])


class Interface(unittest.TestCase):
    def test_names_and_order_of_arguments(self):
        for name, arguments in ARGUMENTS.items():
            parameters = inspect.signature(getattr(sizes, name)).parameters
            self.assertEqual(list(parameters), arguments, name)
            for parameter in parameters.values():
                self.assertIs(parameter.kind, inspect.Parameter.POSITIONAL_OR_KEYWORD, name)
                self.assertIs(parameter.default, inspect.Parameter.empty, name)

    def test_arguments_by_name(self):
        for name, arguments in CALLS:
            named = dict(zip(ARGUMENTS[name], arguments))
            self.assertEqual(getattr(sizes, name)(**named), answer((name, arguments)), name)

    def test_lists_of_whole_numbers(self):
        for call in CALLS:
            result = answer(call)
            self.assertIs(type(result), list, call)
            for number in result:
                self.assertIs(type(number), int, call)

    def test_a_refusal_is_its_number_alone_but_for_a_fault(self):
        for call in CALLS:
            result = answer(call)
            if result[0] < 0:
                self.assertEqual(len(result), 3 if result[0] == -2 else 1, call)

    def test_every_call_is_tried(self):
        self.assertEqual({name for name, arguments in CALLS}, set(ARGUMENTS))

    def test_what_is_handed_in_stays_as_it_was(self):
        for name, arguments in CALLS:
            kept = copy.deepcopy(arguments)
            result = answer((name, arguments))
            self.assertEqual(arguments, kept, name)
            for given in arguments:
                self.assertIsNot(given, result, name)

    def test_what_is_handed_in_is_not_changed_for_a_while(self):
        for name, arguments in CALLS:
            sealed = [Sealed(given) if isinstance(given, list) else given for given in arguments]
            self.assertEqual(answer((name, sealed)), answer((name, arguments)), name)

    def test_nothing_is_kept(self):
        first = [answer(call) for call in CALLS]
        wanted = [list(result) for result in first]
        for result in first:
            result.append(99)
            result[0] = 99
        self.assertEqual([answer(call) for call in CALLS], wanted)
        backwards = [answer(call) for call in reversed(CALLS)]
        self.assertEqual(backwards, wanted[::-1])

    def test_a_call_answers_the_same_behind_any_other(self):
        wanted = [answer(call) for call in CALLS]
        for earlier in CALLS:
            for call, result in zip(CALLS, wanted):
                answer(earlier)
                self.assertEqual(answer(call), result, (earlier, call))

    def test_nothing_is_printed(self):
        out = io.StringIO()
        with contextlib.redirect_stdout(out), contextlib.redirect_stderr(out):
            for call in CALLS:
                answer(call)
        self.assertEqual(out.getvalue(), "")


if __name__ == "__main__":
    unittest.main()
