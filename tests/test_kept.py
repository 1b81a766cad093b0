"""What is handed in stays as it was, and nothing is kept from one call to the next."""

import contextlib
import copy
import io
import unittest
from unittest import mock

from equationfollow import equations
from tests.helper import to_bytes

CASES = [
    (2, [23, 24], ["x^2 + y^2 - 5", "x + y - 3", "x*y - 2"]),
    (5, [23, 24, 25], ["-x^3*y^2 + 1/2*z", "x - y", "-y^2 + 3/7*z", "x*y*z - 1"]),
    (5, [0], ["a^5", "0"]),
    (1, [23], ["x"]),
    (3, [23], ["0", "-x"]),
    (0, [23], ["x", "x"]),
    (5, [23, 24], ["x + z", "y"]),
    (5, [23, 24], ["x + x", "-y"]),
    (5, [24, 23], ["x", "y"]),
    (5, [23], ["x^6"]),
    (7, [23], []),
]


def call_when(d, letters, texts):
    return equations.when(letters, texts)


# Letters rise, so those that are told end with the greatest one.
def call_without(d, letters, texts):
    return equations.without(d, letters.index(max(letters)) + 1, letters, texts)


# Of the calls without p the same equations.
EQUATION_CASES = [(d, letters, texts[1:]) for d, letters, texts in CASES] + CASES
GONE_CASES = [(d, letters + gone, texts) for d, letters, texts in EQUATION_CASES
              for gone in ([], letters[:1], letters[:2], letters[-1:])]

CALLS = {
    "follows": (equations.follows, CASES),
    "when": (call_when, CASES),
    "left": (equations.left, CASES),
    "witness": (equations.witness, CASES),
    "basis": (equations.basis, EQUATION_CASES),
    "without": (call_without, GONE_CASES),
}


class Kept(unittest.TestCase):
    def check(self, call, d, letters, texts):
        handed = (letters, texts)
        before = copy.deepcopy(handed)
        first = call(d, letters, texts)
        self.assertEqual(handed, before)
        wanted = list(first)
        for given in [letters, texts] + texts:
            self.assertIsNot(first, given)
        # What was answered belongs to the caller, who may change it.
        first.append(0)
        first[0] = 77
        self.assertEqual(call(d, letters, texts), wanted)
        self.assertEqual(handed, before)

    def test_twice(self):
        for name, (call, cases) in CALLS.items():
            for d, letters, texts in cases:
                with self.subTest(call=name, d=d, letters=letters, texts=texts):
                    self.check(call, d, list(letters), [to_bytes(text) for text in texts])

    def test_the_lists_handed_in_are_not_taken_for_others(self):
        # An answer that shared a list with what was handed in would change along with it.
        for name, (call, cases) in CALLS.items():
            letters = [23, 24, 24] if name == "without" else [23, 24]
            texts = [to_bytes("x*y - 1"), to_bytes("x - y")]
            first = call(2, letters, texts)
            wanted = list(first)
            letters.clear()
            for text in texts:
                text.clear()
            self.assertEqual(first, wanted, name)

    def test_whatever_came_before(self):
        every = [(call, case) for call, cases in CALLS.values() for case in cases]

        def answers(pairs):
            return [call(d, list(letters), [to_bytes(text) for text in told]) for call, (d, letters, told) in pairs]
        self.assertEqual(answers(every), answers(every[::-1])[::-1])

    def test_nothing_is_printed(self):
        with contextlib.redirect_stdout(io.StringIO()) as out, contextlib.redirect_stderr(io.StringIO()) as errors:
            for call, cases in CALLS.values():
                for d, letters, told in cases:
                    call(d, letters, [to_bytes(text) for text in told])
        self.assertEqual(out.getvalue() + errors.getvalue(), "")

    def test_nothing_is_read_or_imported(self):
        handed = [(call, d, letters, [to_bytes(text) for text in told])
                  for call, cases in CALLS.values() for d, letters, told in cases]
        barred = mock.Mock(side_effect=AssertionError)
        with mock.patch("builtins.open", barred), mock.patch("builtins.input", barred), mock.patch("builtins.__import__", barred):
            for call, d, letters, texts in handed:
                call(d, letters, texts)
        self.assertEqual(barred.call_count, 0)

    def test_one_list_handed_in_twice(self):
        text = to_bytes("x - 1")
        self.assertEqual(equations.follows(1, [23], [text, text, text]), [1, 1, 49, 1, 48])
        self.assertEqual(equations.left(1, [23], [text, text, text]), [1, 1, 48])
        self.assertEqual(equations.witness(1, [23], [text, text, text]), [-5])
        self.assertEqual(equations.basis(1, [23], [text, text, text]), [1, 5] + text)
        self.assertEqual(equations.without(1, 2, [23, 24, 24], [text, text, text]), [1, 5] + text)
        self.assertEqual(text, to_bytes("x - 1"))


if __name__ == "__main__":
    unittest.main()
