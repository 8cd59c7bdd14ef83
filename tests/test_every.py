"""What holds of every function of the interface: nothing changed, nothing kept, ints alone, nothing drawn in."""

import ast
import contextlib
import inspect
import io
import math
import pathlib
import sys
import types
import unittest

import evensteps
from evensteps import tunings

CALLS = (
    (tunings.read, ([51, 47, 50],)),
    (tunings.read, ([50],)),
    (tunings.read, ([49, 55],)),
    (tunings.read, ([],)),
    (tunings.read, ([48, 47, 47],)),
    (tunings.read, ([49] * 64,)),
    (tunings.read, ([49] * 65,)),
    (tunings.step, (12, [-1, 1, 0, 0, 0, 0])),
    (tunings.step, (12, [1, -1, 0, 0, 0, 0])),
    (tunings.step, (1, [0, 0, 0, 0, 0, 0])),
    (tunings.step, (1, [0, -1, 0, 0, 0, 0])),
    (tunings.step, (64, [8, 8, 8, 8, 8, 8])),
    (tunings.step, (0, [0, 0, 0, 0, 0, 0])),
    (tunings.step, (12, [0, 0, 0, 0, 0, 9])),
    (tunings.val, (12,)),
    (tunings.val, (1,)),
    (tunings.val, (64,)),
    (tunings.val, (0,)),
    (tunings.worst, (12, [-1, 1, 0, 0, 0, 0])),
    (tunings.worst, (12, [-1, 1, 0, 0, 0, 0, 2, 0, -1, 0, 0, 0])),
    (tunings.worst, (1, [1, 0, 0, 0, 0, 0] * 16)),
    (tunings.worst, (64, [8, -8, 8, -8, 8, -8] * 16)),
    (tunings.worst, (12, [])),
    (tunings.worst, (65, [0, 0, 0, 0, 0, 0])),
    (tunings.worst, (12, [0, 0, 0, 0, 0, 9])),
    (tunings.best, (1, 24, [-1, 1, 0, 0, 0, 0])),
    (tunings.best, (5, 31, [-1, 1, 0, 0, 0, 0, 2, 0, -1, 0, 0, 0])),
    (tunings.best, (60, 64, [8, -8, 8, -8, 8, -8] * 16)),
    (tunings.best, (1, 64, [1, 0, 0, 0, 0, 0])),
    (tunings.best, (1, 64, [])),
    (tunings.best, (2, 1, [0, 0, 0, 0, 0, 0])),
    (tunings.best, (1, 64, [0, 0, 0, 0, 0, 9])),
    (tunings.vanish, (1, 64, [-4, 4, -1, 0, 0, 0])),
    (tunings.vanish, (1, 64, [0, 0, 0, 0, 0, 0])),
    (tunings.vanish, (1, 64, [1, 0, 0, 0, 0, 0])),
    (tunings.vanish, (1, 65, [0, 0, 0, 0, 0, 0])),
    (tunings.vanish, (1, 64, [0, 0, 0, 0, 0, 9])),
    (tunings.scale, (1, 64, [-1, 1, 0, 0, 0, 0])),
    (tunings.scale, (7, 7, [-1, 1, 0, 0, 0, 0])),
    (tunings.scale, (64, 64, [8, -8, 8, -8, 8, -8])),
    (tunings.scale, (7, 6, [-1, 1, 0, 0, 0, 0])),
    (tunings.scale, (7, 7, [1, 0, 0, 0, 0, 0])),
    (tunings.scale, (0, 7, [-1, 1, 0, 0, 0, 0])),
    (tunings.kinds, (1, 64, [-1, 1, 0, 0, 0, 0])),
    (tunings.kinds, (7, 2, [-1, 1, 0, 0, 0, 0])),
    (tunings.kinds, (64, 64, [8, -8, 8, -8, 8, -8])),
    (tunings.kinds, (7, 1, [-1, 1, 0, 0, 0, 0])),
    (tunings.kinds, (7, 7, [1, 0, 0, 0, 0, 0])),
    (tunings.kinds, (7, 65, [-1, 1, 0, 0, 0, 0])),
)

PARAMETERS = {
    tunings.read: ["t"],
    tunings.step: ["n", "e"],
    tunings.val: ["n"],
    tunings.worst: ["n", "l"],
    tunings.best: ["a", "z", "l"],
    tunings.vanish: ["a", "z", "e"],
    tunings.scale: ["c", "most", "e"],
    tunings.kinds: ["c", "most", "e"],
}

# How many numbers an answer has that is no refusal, where that is always the same.
LENGTHS = {
    tunings.read: 7,
    tunings.step: 2,
    tunings.val: 7,
    tunings.worst: 1,
    tunings.best: 1,
    tunings.vanish: 1,
}

# The functions whose answers begin with 0.
BEGIN_WITH_ZERO = (tunings.read, tunings.step, tunings.val)


class Watched(list):
    """A list that fails the test as soon as it is changed, even if it would be changed back."""

    def refuse(self, *arguments, **keywords):
        raise AssertionError("what is handed in was changed")

    append = clear = extend = insert = pop = remove = reverse = sort = refuse
    __setitem__ = __delitem__ = __iadd__ = __imul__ = refuse


def copied(arguments, kind):
    return [kind(argument) if isinstance(argument, list) else argument for argument in arguments]


def as_if_first(call, arguments):
    """What the call answers in a module made anew for it."""
    fresh = types.ModuleType("fresh")
    exec(inspect.getsource(tunings), vars(fresh))
    return getattr(fresh, call.__name__)(*copied(arguments, list))


class EveryCall(unittest.TestCase):
    def test_handed_in_is_not_changed(self):
        for call, arguments in CALLS:
            given = copied(arguments, Watched)
            call(*given)
            self.assertEqual(given, list(arguments))

    def test_second_call_gives_the_same(self):
        first = [call(*copied(arguments, list)) for call, arguments in CALLS]
        again = [call(*copied(arguments, list)) for call, arguments in reversed(CALLS)]
        self.assertEqual(first, list(reversed(again)))

    def test_in_whatever_order_as_if_for_the_first_time(self):
        first = [as_if_first(call, arguments) for call, arguments in CALLS]
        # Each of these strides has no divisor in common with how many calls there are, so it meets them all.
        strides = [stride for stride in range(1, len(CALLS)) if math.gcd(stride, len(CALLS)) == 1]
        for stride in strides[:6] + strides[-6:]:
            for turn in range(len(CALLS)):
                place = turn * stride % len(CALLS)
                call, arguments = CALLS[place]
                self.assertEqual(call(*copied(arguments, list)), first[place], CALLS[place])

    def test_all_eight_are_called(self):
        names = {call.__name__ for call, _ in CALLS}
        self.assertEqual(names, {"read", "step", "val", "worst", "best", "vanish", "scale", "kinds"})

    def test_nothing_of_the_module_is_changed(self):
        before = {name: repr(value) for name, value in vars(tunings).items() if not name.startswith("__")}
        for call, arguments in CALLS:
            call(*copied(arguments, list))
        after = {name: repr(value) for name, value in vars(tunings).items() if not name.startswith("__")}
        self.assertEqual(before, after)

    def test_changing_an_answer_does_not_change_the_next(self):
        for call, arguments in CALLS:
            answer = call(*copied(arguments, list))
            kept = list(answer)
            answer[0] = 77
            answer.append(78)
            self.assertEqual(call(*copied(arguments, list)), kept)

    def test_answer_is_a_list_of_ints(self):
        for call, arguments in CALLS:
            answer = call(*copied(arguments, list))
            self.assertIs(type(answer), list)
            for number in answer:
                self.assertIs(type(number), int)

    def test_answer_has_its_length(self):
        for call, arguments in CALLS:
            answer = call(*copied(arguments, list))
            self.assertEqual(len(answer), 1 if answer[0] < 0 else LENGTHS.get(call, 1 + 6 * answer[0]))
            if call in BEGIN_WITH_ZERO:
                self.assertLessEqual(answer[0], 0)

    def test_nothing_is_printed(self):
        out = io.StringIO()
        with contextlib.redirect_stdout(out), contextlib.redirect_stderr(out):
            for call, arguments in CALLS:
                call(*copied(arguments, list))
        self.assertEqual(out.getvalue(), "")

    def test_nothing_is_opened_read_or_imported(self):
        seen = []
        watching = []

        def watch(event, details):
            if watching:
                seen.append(event)

        sys.addaudithook(watch)
        watching.append(True)
        open(__file__, encoding="ascii").close()
        self.assertIn("open", seen)
        seen.clear()
        for call, arguments in CALLS:
            call(*copied(arguments, list))
        watching.clear()
        self.assertEqual(seen, [])


class Interface(unittest.TestCase):
    def test_parameters(self):
        for call, parameters in PARAMETERS.items():
            self.assertEqual(list(inspect.signature(call).parameters), parameters)

    def test_arguments_by_name(self):
        for call, arguments in CALLS:
            named = dict(zip(PARAMETERS[call], copied(arguments, list)))
            self.assertEqual(call(**named), call(*copied(arguments, list)))

    def test_whole_numbers_alone_and_no_imports(self):
        for path in sorted(pathlib.Path(evensteps.__file__).parent.glob("*.py")):
            for node in ast.walk(ast.parse(path.read_text(encoding="ascii"))):
                self.assertNotIsInstance(node, (ast.Import, ast.ImportFrom, ast.Div), path.name)
                if isinstance(node, ast.Constant):
                    self.assertNotIsInstance(node.value, (float, complex), path.name)


if __name__ == "__main__":
    unittest.main()
