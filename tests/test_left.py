"""left: what's left of something, less what follows within a degree."""

import unittest

from equationfollow import equations
from tests.helper import LARGE_FIRST
from tests.helper import LARGE_SECOND
from tests.helper import LARGE_THIRD
from tests.helper import LARGE_TWELVE
from tests.helper import digits_of
from tests.helper import follows
from tests.helper import follows_again
from tests.helper import left
from tests.helper import left_again
from tests.helper import letter_numbers
from tests.helper import plus
from tests.helper import read
from tests.helper import to_bytes
from tests.helper import write


class Case(unittest.TestCase):
    def check(self, wanted, d, names, p, *told):
        self.assertEqual(left(d, names, p, *told), wanted)
        self.assertEqual(left_again(d, names, p, *told), wanted)
        self.assertEqual(left(d, names, wanted, *told), wanted)
        difference = write(plus(read(p, names), read(wanted, names), -1), names)
        self.assertIsInstance(follows(d, names, difference, *told), list)
        self.assertEqual(wanted == "0", isinstance(follows(d, names, p, *told), list))


class Ordinary(Case):
    DOCUMENTS = ("x + y - 3", "x*y - 2")

    def test_number_by_number(self):
        texts = [to_bytes("x^2 + 2*y^2"), to_bytes("x + y - 3"), to_bytes("x*y - 2")]
        answer = equations.left(2, [23, 24], texts)
        self.assertEqual(answer, [1, 7] + to_bytes("3*y + 3"))
        self.assertIs(type(answer), list)
        self.assertEqual({type(number) for number in answer}, {int})

    def test_what_follows(self):
        self.assertEqual(equations.left(1, [23], [to_bytes("x"), to_bytes("x")]), [1, 1, 48])
        self.check("0", 2, "xy", "x^2 + y^2 - 5", *self.DOCUMENTS)
        self.check("0", 5, "x", "x^5 - 1", "x - 1")
        self.check("0", 1, "xy", "2*x + 2*y - 6", *self.DOCUMENTS)

    def test_something_else_than_p(self):
        self.check("5", 2, "xy", "x^2 + y^2", *self.DOCUMENTS)
        self.check("-y + 3", 2, "xy", "x", *self.DOCUMENTS)
        self.check("-3*y + 7", 2, "xy", "x^2", *self.DOCUMENTS)
        self.check("3*y - 2", 2, "xy", "y^2", *self.DOCUMENTS)
        self.check("7*y - 6", 3, "xy", "y^3", *self.DOCUMENTS)
        self.check("y - 1", 2, "xy", "x*y + y - 3", *self.DOCUMENTS)

    def test_p_itself(self):
        self.check("y", 2, "xy", "y", *self.DOCUMENTS)
        self.check("-3/7*y + 1/2", 2, "xy", "-3/7*y + 1/2", *self.DOCUMENTS)
        self.check("x^4 - 3*x + 1", 5, "x", "x^4 - 3*x + 1", "x^5 - x^4")
        self.check("x - y", 5, "xy", "x - y", "x^2 - 2", "y^2 - 2")

    def test_within_a_smaller_and_a_larger_degree(self):
        told = ["x^2", "x*y - 1"]
        self.check("x", 2, "xy", "x^2 + x", *told)
        self.check("0", 3, "xy", "x^2 + x", *told)
        self.check("1", 3, "xy", "x + 1", *told)
        self.check("0", 4, "xy", "x + 1", *told)
        # y*(x^2 - y) less x*(x*y - 1) is x - y^2.
        self.check("y^2 + 1", 2, "xy", "y^2 + 1", "x^2 - y", "x*y - 1")
        self.check("x + 1", 3, "xy", "y^2 + 1", "x^2 - y", "x*y - 1")
        self.check("x + 1", 5, "xy", "y^2 + 1", "x^2 - y", "x*y - 1")

    def test_one_letter(self):
        self.check("2", 3, "a", "a^3 + 1", "a - 1")
        self.check("-2*z + 9", 4, "z", "z^4 - z^3 + 5", "z^2 - z + 2", "0")
        self.check("1", 2, "z", "z^2", "z^2 - 1", "z^2 - 2*z + 1")

    def test_three_letters(self):
        told = ["a - b", "b - m"]
        self.check("m", 1, "abm", "a", *told)
        self.check("m^2 + m", 2, "abm", "a*b + a", *told)
        self.check("3*m^5 - m^2", 5, "abm", "a^5 + a*b^3*m + m^5 - b^2", *told)
        self.check("-y^2 - y*z - z^2", 2, "xyz", "x*y + x*z + y*z", "x + y + z")

    def test_fractions(self):
        self.check("-3/10", 1, "x", "x", "2/3*x + 1/5")
        self.check("17/21*y - 2/27", 2, "xy", "1/2*x^2 + 1/3*y", "3/4*x^2 - 5/7*y + 1/9")
        self.check("5/27", 1, "xy", "1/3*x - 1/3*y", "1/2*x + 1/3*y", "1/4*x - 1/6*y - 1/9", "0")
        self.check("9999/9998", 1, "x", "x - 1/9998", "x - 5000/4999")

    def test_negative_leading_numbers(self):
        self.check("-y^2 + 1", 2, "xy", "x^2 + 1", "-x^2 - y^2")
        self.check("-1/2*y", 2, "xy", "-x", "-2*x + y")

    def test_an_equation_that_is_a_multiple_of_another(self):
        self.check("-y + 1", 1, "xy", "x + 1", "x + y", "2*x + 2*y")
        self.check("-y + 1", 1, "xy", "x + 1", "2/3*x + 2/3*y", "x + y", "-x - y")
        self.check("y^2", 2, "xy", "x^2", "x + y", "x*y + y^2")
        self.check("y^2", 2, "xy", "x^2", "x*y + y^2", "x + y")
        self.check("-y", 1, "xy", "x", "x*y + y^2", "x + y")

    def test_the_higher_product_goes(self):
        self.check("y^2", 2, "xyz", "x*z", "x*z - y^2")
        self.check("y^2", 2, "xyz", "y^2", "x*z - y^2")
        self.check("x^2", 3, "xyz", "z^3", "z^3 - x^2")
        self.check("x^2", 3, "xyz", "x^2", "z^3 - x^2")
        self.check("b", 1, "ab", "a", "a - b")

    def test_what_stands_in_the_basis_is_less_what_follows_too(self):
        self.check("1", 2, "xy", "x^2", "x^2 - y", "y - 1")
        self.check("1", 2, "xy", "x^2", "y - 1", "x^2 - y")
        self.check("4/9", 4, "xyz", "x^4", "x^2 - y", "3*y - 2*z", "z - 1")

    def test_letters_are_named_as_told(self):
        answer = equations.left(2, letter_numbers("cq"), [to_bytes("c^2 + q"), to_bytes("10*c + 10*q")])
        self.assertEqual(answer, [1, 7] + to_bytes("q^2 + q"))
        self.check("z^2", 2, "az", "a^2", "a + z")


class Edges(Case):
    def test_no_equation(self):
        for p in ["0", "1", "-7/3", "x", "x^5 - 1/2*x + 1", "-x^3"]:
            self.check(p, 5, "x", p)
        self.check("-7/3", 0, "x", "-7/3")
        self.check("x*y*z - 2/3*y", 3, "xyz", "x*y*z - 2/3*y")

    def test_equation_0(self):
        self.check("x", 1, "x", "x", "0")
        self.check("x + 4", 1, "x", "x + 4", "0", "0", "0")
        self.check("4", 1, "x", "x + 4", "0", "x", "0")

    def test_p_0(self):
        self.check("0", 0, "x", "0")
        self.check("0", 0, "xy", "0", "x + y")
        self.check("0", 5, "xyz", "0", "x + y", "x - y - 1", "z")

    def test_numbers_alone(self):
        self.check("0", 0, "x", "3", "5")
        self.check("0", 2, "x", "x^2 + 1", "-1/2")
        self.check("0", 5, "xyz", "x^5 - y*z + 9999/9998", "x", "-1/2")
        self.check("7", 0, "x", "7", "x")
        self.check("7", 5, "x", "7", "x")
        self.check("0", 1, "x", "7", "x", "x - 1")
        self.check("-1/7", 5, "xy", "-1/7", "x^2 - 2", "y - 1/3")

    def test_an_equation_of_a_degree_above_d(self):
        self.check("x", 1, "x", "x", "x^2")
        self.check("1", 1, "x", "x + 1", "x^5", "x")
        self.check("1", 0, "x", "1", "x^5", "x")
        self.check("0", 0, "x", "1", "x^5", "2")

    def test_degree_0(self):
        self.check("7", 0, "xyz", "7", "x", "y", "z")
        self.check("0", 0, "xyz", "7", "x", "y", "-9/8")

    def test_degree_5(self):
        self.check("z^5", 5, "xyz", "x^5", "x - y", "y - z")
        self.check("z^5 - 1", 5, "xyz", "x^2*y^2*z - 1", "x - y", "y - z")
        self.check("1", 5, "x", "x^5", "x^5 - 1")
        self.check("x^4", 5, "x", "x^4", "x^5 - 1")

    def test_ps_degree_just_d_and_one_above(self):
        for d, p in enumerate(["1", "x", "x*y", "x^2*y", "x*y^3", "x^5"]):
            self.check(p, d, "xy", p)
            self.check("0", d, "xy", p, "1")
            if d > 0:
                self.assertEqual(left(d - 1, "xy", p), -6)
                self.assertEqual(left(d - 1, "xy", p, "1"), -6)
                self.assertEqual(left(d - 1, "xy", p + " + 1", p), -6)

    def test_twelve_products(self):
        p = ("9999*x^4 + 9999*x^3*y + 9999*x^2*y^2 + 9999*x*y^3 + 9999*y^4 + 9999*x^3 + 9999*x^2*y"
             " + 9999*x*y^2 + 9999*y^3 + 9999*x^2 + 9999*x*y - 1/9999")
        self.check("0", 4, "xy", p, p)
        self.check(p, 4, "xy", p)
        self.check(p, 5, "xy", p, "x^5", "y^5")
        self.check("-1/9999", 4, "xy", p, "x", "y")


class LargeNumbers(unittest.TestCase):
    def check_large(self, d, names, p, told, digits):
        rest = left(d, names, p, *told)
        self.assertEqual(rest, left_again(d, names, p, *told))
        self.assertGreaterEqual(digits_of([rest]), digits)
        difference = write(plus(read(p, names), read(rest, names), -1), names)
        self.assertNotEqual(follows_again(d, names, difference, *told), 0)
        self.assertEqual(left_again(d, names, rest, *told), rest)

    def test_two_equations(self):
        self.check_large(5, "xyz", "x^5 - 1", [LARGE_FIRST, LARGE_SECOND], 300)

    def test_three_equations(self):
        self.check_large(5, "xyz", "x^5 - 1/7*x + 1", [LARGE_FIRST, LARGE_SECOND, LARGE_TWELVE], 600)
        self.check_large(5, "xyz", "z^5 + 3/4*z", [LARGE_TWELVE, LARGE_SECOND, LARGE_FIRST], 600)

    def test_large_on_both_sides(self):
        self.check_large(5, "xyz", LARGE_TWELVE, [LARGE_FIRST, LARGE_SECOND], 150)

    def test_what_follows(self):
        p = "x^5 - y^3*z^2 + z^5 + 7/11*x"
        self.assertEqual(left(5, "xyz", p, LARGE_FIRST, LARGE_SECOND, LARGE_THIRD), "0")
        self.assertEqual(left(5, "xyz", LARGE_TWELVE, LARGE_FIRST, LARGE_TWELVE, LARGE_SECOND), "0")


if __name__ == "__main__":
    unittest.main()
