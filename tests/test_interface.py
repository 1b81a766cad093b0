"""The six calls' names and arguments, and the document's own example by all of them."""

import inspect
import unittest

from equationfollow import equations
from tests.helper import basis
from tests.helper import follows
from tests.helper import left
from tests.helper import to_bytes
from tests.helper import total_of
from tests.helper import when
from tests.helper import witness
from tests.helper import without

ARGUMENTS = {
    "follows": ["d", "letters", "texts"],
    "when": ["letters", "texts"],
    "left": ["d", "letters", "texts"],
    "witness": ["d", "letters", "texts"],
    "basis": ["d", "letters", "texts"],
    "without": ["d", "n", "letters", "texts"],
}


class Interface(unittest.TestCase):
    def test_arguments(self):
        for name, arguments in ARGUMENTS.items():
            parameters = inspect.signature(getattr(equations, name)).parameters.values()
            self.assertEqual([parameter.name for parameter in parameters], arguments)
            self.assertEqual({parameter.default for parameter in parameters}, {inspect.Parameter.empty})

    def test_by_name(self):
        texts = [to_bytes("x - 1")]
        self.assertEqual(equations.follows(d=1, letters=[23], texts=texts), [0])
        self.assertEqual(equations.when(letters=[23], texts=texts), [-5])
        self.assertEqual(equations.left(d=1, letters=[23], texts=texts), [1, 5] + texts[0])
        self.assertEqual(equations.witness(d=1, letters=[23], texts=texts), [1, 1, 120, 1, 49])
        self.assertEqual(equations.basis(d=1, letters=[23], texts=texts), [1, 5] + texts[0])
        self.assertEqual(equations.without(d=1, n=2, letters=[23, 24, 24], texts=texts), [1, 5] + texts[0])


class TheDocumentsExample(unittest.TestCase):
    TOLD = ("x + y - 3", "x*y - 2")

    def test_what_follows(self):
        p = "x^2 + y^2 - 5"
        self.assertEqual(total_of("xy", follows(2, "xy", p, *self.TOLD), self.TOLD), p)
        self.assertEqual(when("xy", p, *self.TOLD), 2)
        self.assertEqual(left(2, "xy", p, *self.TOLD), "0")
        self.assertEqual(witness(2, "xy", p, *self.TOLD), -5)

    def test_what_does_not(self):
        self.assertEqual(follows(1, "xy", "x", *self.TOLD), 0)
        self.assertEqual(when("xy", "x", *self.TOLD), -5)
        self.assertEqual(left(1, "xy", "x", *self.TOLD), "-y + 3")
        self.assertEqual(witness(1, "xy", "x", *self.TOLD), [("x", "-1"), ("y", "1")])

    def test_what_can_be_said_without_x(self):
        self.assertEqual(basis(2, "xy", *self.TOLD), ["x^2 + 3*y - 7", "x*y - 2", "y^2 - 3*y + 2", "x + y - 3"])
        self.assertEqual(without(2, "xy", "x", *self.TOLD), ["y^2 - 3*y + 2"])
        self.assertEqual(when("xy", "y^2 - 3*y + 2", *self.TOLD), 2)


if __name__ == "__main__":
    unittest.main()
