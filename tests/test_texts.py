"""Which texts are a polynomial's and which aren't."""

import itertools
import random
import unittest

from equationfollow import equations
from tests.helper import basis
from tests.helper import follows
from tests.helper import is_polynomial_text
from tests.helper import left
from tests.helper import random_polynomial
from tests.helper import to_bytes
from tests.helper import when
from tests.helper import witness
from tests.helper import without
from tests.helper import write

NOT_A_POLYNOMIAL = [
    "", " ", "  ", "+", "-", "*", "^", "/",
    "00", "01", "007", "-0", "+0", "0 + 0", "0 + x", "x + 0", "x - 0", "0*x", "0*x + y", "-0*x", "x + 0*y",
    "2/4", "6/3", "3/1", "1/1", "0/1", "0/5", "1/0", "0/0", "x + 2/4", "2/4*x", "3/1*x", "0/5*x",
    "01/2", "1/02", "1/2/3", "/2", "1/", "1//2", "-/2", "1/-2", "1/x", "x/2", "x/y", "2/3/x",
    "1*x", "-1*x", "x + 1*y", "1/1*x", "2*3", "2*3*x", "x*2", "x*1", "2x", "x2", "2 x", "x y", "xy", "2*", "*x", "x*",
    "2**x", "x**2", "*", "**", "2*-x", "2*+x",
    "x^1", "x^0", "x^01", "x^02", "x^", "x^-2", "x^+2", "x^y", "x^2^2", "x^2^", "^2", "x^^2", "2^2", "x^2/3", "x^ 2",
    "y*x", "x*x", "x^2*x", "x*x^2", "y*x*y", "y^2*x", "x*y*x",
    "x + x", "x - x", "x + y + x", "2*x + 3*x", "1 + 1", "1 + 2", "x + 1 + 1",
    "y + x", "1 + x", "x + x^2", "y^2 + x^2", "y^2 + x*y", "x*y + x^2", "x + x*y", "y + 1 + x", "x^2 + y + x",
    "x+y", "x +y", "x+ y", "x  + y", "x +  y", "x  +  y", " x", "x ", " x + y", "x + y ", "x + ", " + x", "x +", "+ x",
    "x y", "x - ", "- x", "-  x", " -x", "x\t+ y", "x\n", "\n", "x +\ny",
    "+x", "--x", "+-x", "-+x", "x + -y", "x - -y", "x + +y", "x -y", "x - + y", "x + - y", "x + + y", "+1", "x * y",
    "X", "x + Y", "2*X", "A", "Z^2", "x*Y", "\xe9", "x + \xff", "\x80", "x\x00", "\x00", "2\xb7x", "x^\xb2",
    "1.5", "1,5", "1e3", "0x1", "1_000", "(x)", "x=0", "x = 0", "a`", "{", "`", "@", "[", ":", ";x", "x^:",
]

A_POLYNOMIAL = [
    "0", "1", "-1", "7", "-7", "10", "9999", "1/2", "-1/2", "9999/9998", "x", "-x", "y", "2*x", "-2*x", "1/2*x", "-3/2*x",
    "10/3*x", "x^2", "x^5", "x*y", "x^2*y", "x^4*y", "x*y^4", "x + y", "x - y", "-x - y", "x + 1", "x - 1", "x - 1/2",
    "x^2 + x*y + y^2 + x + y + 1", "x^2*y - x*y^2", "3/2*x^2*y - x + 1", "x^5 + x^4*y + x*y^4 + y^5 + x^4 + 10",
]


class Texts(unittest.TestCase):
    def places(self, text):
        """The same text as p's and as each equation's."""
        yield [text]
        yield ["0", text]
        yield ["x", "y", text, "x"]
        yield ["x", "y", "x", text]

    def equation_places(self, text):
        yield [text]
        yield ["x", text]
        yield [text, "x", "y"]
        yield ["x", "y", text]

    def test_those_that_are_not(self):
        for text in NOT_A_POLYNOMIAL:
            self.assertFalse(is_polynomial_text(text), text)
            for texts in self.places(text):
                with self.subTest(texts=texts):
                    self.assertEqual(follows(5, "xy", *texts), -1)
                    self.assertEqual(when("xy", *texts), -1)
                    self.assertEqual(left(5, "xy", *texts), -1)
                    self.assertEqual(witness(5, "xy", *texts), -1)
            for texts in self.equation_places(text):
                with self.subTest(equations=texts):
                    self.assertEqual(basis(5, "xy", *texts), -1)
                    self.assertEqual(without(5, "xy", "x", *texts), -1)

    def test_those_that_are(self):
        for text in A_POLYNOMIAL:
            self.assertTrue(is_polynomial_text(text), text)
            for texts in self.places(text):
                with self.subTest(texts=texts):
                    self.assertNotIn(follows(5, "xy", *texts), (-1, -2, -4, -6))
                    self.assertNotIn(when("xy", *texts), (-1, -2, -4))
                    self.assertIsInstance(left(5, "xy", *texts), str)
                    self.assertNotIn(witness(5, "xy", *texts), (-1, -2, -4, -6))
            for texts in self.equation_places(text):
                with self.subTest(equations=texts):
                    self.assertIsInstance(basis(5, "xy", *texts), list)
                    self.assertIsInstance(without(5, "xy", "y", *texts), list)

    def test_those_that_are_written(self):
        # Nothing follows from no equation, so p itself is written again.
        for text in A_POLYNOMIAL:
            self.assertEqual(left(5, "xy", text), text)

    def test_all_single_bytes(self):
        for byte in range(256):
            polynomial = chr(byte) in "0123456789abcdefghijklmnopqrstuvwxyz"
            answer = equations.follows(5, [23], [[byte]])
            self.assertEqual(answer != [-1], polynomial, byte)

    def test_each_byte_behind_a_letter(self):
        for byte in range(256):
            self.assertEqual(equations.follows(5, [23], [[120, byte]]), [-1], byte)

    def test_all_short_texts(self):
        for count in range(5):
            for signs in itertools.product("012xy +-*^/", repeat=count):
                text = "".join(signs)
                refused = follows(5, "xy", text) == -1
                self.assertEqual(refused, not is_polynomial_text(text), text)

    def test_texts_with_one_byte_changed(self):
        for seed in range(3000):
            rng = random.Random(seed)
            names = rng.choice(["x", "xy", "xyz", "axy"])
            text = write(random_polynomial(rng, names, 4, 5, 30, 12), names)
            place = rng.randint(0, len(text))
            middle = rng.choice(["", rng.choice("0123456789axyz +-*^/")])
            changed = text[:place] + middle + text[place + rng.randint(0, 1):]
            refused = follows(5, names, changed) == -1
            self.assertEqual(refused, not is_polynomial_text(changed), changed)

    def test_digits_without_end(self):
        nines = "9" * 398
        self.assertEqual(follows(5, "x", "x^99999"), -2)
        self.assertEqual(follows(5, "x", "x^" + nines), -2)
        self.assertEqual(follows(5, "x", "0", "x^" + nines), -2)
        self.assertEqual(follows(5, "x", nines), -2)
        self.assertEqual(follows(5, "x", "x^0" + nines[1:]), -1)
        self.assertEqual(follows(5, "x", "0" + nines), -1)
        self.assertEqual(follows(5, "x", "1" * 198 + "/" + "1" * 198), -1)
        self.assertEqual(follows(5, "x", "1" * 199 + "/" + "1" * 198), -2)
        self.assertEqual(follows(5, "xy", "x^99999*y + x*y^99999"), -2)
        self.assertEqual(follows(5, "xy", "x*y^99999 + x^99999*y"), -1)

    def test_long_sums(self):
        self.assertEqual(follows(5, "x", " + ".join(["1"] * 100)), -1)
        self.assertEqual(follows(5, "x", "*".join(["x"] * 200)), -1)
        self.assertEqual(follows(5, "x", "-" * 400), -1)
        self.assertEqual(follows(5, "x", " " * 400), -1)

    def test_letters_that_are_not_told_count_for_the_order(self):
        self.assertEqual(follows(5, "x", "a + x"), -4)
        self.assertEqual(follows(5, "x", "x + a"), -1)
        self.assertEqual(follows(5, "x", "x*a"), -1)
        self.assertEqual(follows(5, "x", "m*x^2 + x^3"), -4)
        self.assertEqual(follows(5, "x", "a*z + b*c"), -4)
        self.assertEqual(follows(5, "x", "b*c + a*z"), -1)
        every_letter = "*".join("abcdefghijklmnopqrstuvwxyz")
        self.assertEqual(follows(5, "x", every_letter), -4)
        self.assertEqual(to_bytes(every_letter)[-1], 122)


if __name__ == "__main__":
    unittest.main()
