"""What is handed in stays as it was, and nothing is kept from one call to the next."""

import contextlib
import copy
import io
import unittest

from equationfollow import equations
from tests.helper import to_bytes

CASES = [
    (2, [23, 24], ["x^2 + y^2 - 5", "x + y - 3", "x*y - 2"]),
    (5, [23, 24, 25], ["-x^3*y^2 + 1/2*z", "x - y", "-y^2 + 3/7*z", "x*y*z - 1"]),
    (5, [0], ["a^5", "0"]),
    (1, [23], ["x"]),
    (3, [23], ["0", "-x"]),
    (0, [23], ["x", "x"]),
    (5, [23, 24], ["x + z", "y"]),
    (5, [23, 24], ["x + x", "-y"]),
    (5, [24, 23], ["x", "y"]),
    (5, [23], ["x^6"]),
    (7, [23], []),
]


class Kept(unittest.TestCase):
    def check(self, call, *handed):
        before = copy.deepcopy(handed)
        lists = [handed[-2], handed[-1]] + handed[-1]
        first = call(*handed)
        self.assertEqual(handed, before)
        wanted = list(first)
        for given in lists:
            self.assertIsNot(first, given)
        # What was answered belongs to the caller, who may change it.
        first.append(0)
        first[0] = 77
        self.assertEqual(call(*handed), wanted)
        self.assertEqual(handed, before)
        return wanted

    def test_follows(self):
        for d, letters, texts in CASES:
            with self.subTest(d=d, letters=letters, texts=texts):
                self.check(equations.follows, d, list(letters), [to_bytes(text) for text in texts])

    def test_when(self):
        for d, letters, texts in CASES:
            with self.subTest(letters=letters, texts=texts):
                self.check(equations.when, list(letters), [to_bytes(text) for text in texts])

    def test_whatever_came_before(self):
        def answers(cases):
            found = []
            for d, letters, told in cases:
                texts = [to_bytes(text) for text in told]
                found.append((equations.follows(d, list(letters), texts), equations.when(list(letters), texts)))
            return found
        self.assertEqual(answers(CASES), answers(CASES[::-1])[::-1])

    def test_nothing_is_printed(self):
        with contextlib.redirect_stdout(io.StringIO()) as out, contextlib.redirect_stderr(io.StringIO()) as errors:
            for d, letters, told in CASES:
                texts = [to_bytes(text) for text in told]
                equations.follows(d, letters, texts)
                equations.when(letters, texts)
        self.assertEqual(out.getvalue() + errors.getvalue(), "")

    def test_one_list_handed_in_twice(self):
        text = to_bytes("x - 1")
        self.assertEqual(equations.follows(1, [23], [text, text, text]), [1, 1, 49, 1, 48])
        self.assertEqual(text, to_bytes("x - 1"))


if __name__ == "__main__":
    unittest.main()
