"""basis: polynomials that follow within a degree, of which all that follows is made."""

import unittest

from equationfollow import equations
from tests.helper import BasisCase
from tests.helper import LARGE_FIRST
from tests.helper import LARGE_SECOND
from tests.helper import LARGE_THIRD
from tests.helper import LARGE_TWELVE
from tests.helper import basis
from tests.helper import basis_again
from tests.helper import digits_of
from tests.helper import fits
from tests.helper import left
from tests.helper import letter_numbers
from tests.helper import multiples
from tests.helper import products_within
from tests.helper import read
from tests.helper import rest_by
from tests.helper import to_bytes
from tests.helper import write


def products(d, names):
    """The texts of all products of degree d at most, the higher first."""
    return [write({product: 1}, names) for product in reversed(products_within(d, len(names)))]


class Case(BasisCase):
    def check_all(self, d, names, polynomials, told):
        for label, multiple in multiples(d, len(names), [read(text, names) for text in told]):
            self.assertEqual(rest_by(polynomials, multiple), {}, label)

    def check_left(self, d, names, told):
        for label, multiple in multiples(d, len(names), [read(text, names) for text in told]):
            if fits(multiple):
                self.assertEqual(left(d, names, write(multiple, names), *told), "0")

    def check_found(self, found, d, names, told):
        """What the document asks of the basis, told without how it is found."""
        polynomials = [read(text, names) for text in found]
        self.assertEqual([write(polynomial, names) for polynomial in polynomials], found)
        self.check_form(polynomials)
        self.check_follows(d, names, polynomials, told)
        self.check_all(d, names, polynomials, told)

    def check(self, wanted, d, names, *told):
        found = basis(d, names, *told)
        self.assertEqual(found, wanted)
        self.assertEqual(basis_again(d, names, *told), wanted)
        self.check_found(found, d, names, told)
        self.check_left(d, names, told)


class Ordinary(Case):
    DOCUMENTS = ("x + y - 3", "x*y - 2")

    def test_number_by_number(self):
        answer = equations.basis(1, [23, 24], [to_bytes("2*x + y"), to_bytes("x - 12")])
        self.assertEqual(answer, [2, 6] + to_bytes("x - 12") + [6] + to_bytes("y + 24"))
        self.assertIs(type(answer), list)
        self.assertEqual({type(number) for number in answer}, {int})

    def test_the_documents_equations(self):
        self.check([], 0, "xy", *self.DOCUMENTS)
        self.check(["x + y - 3"], 1, "xy", *self.DOCUMENTS)
        self.check(["x^2 + 3*y - 7", "x*y - 2", "y^2 - 3*y + 2", "x + y - 3"], 2, "xy", *self.DOCUMENTS)
        self.check(["x^3 + 7*y - 15", "x^2*y + 2*y - 6", "x*y^2 - 2*y", "y^3 - 7*y + 6",
                    "x^2 + 3*y - 7", "x*y - 2", "y^2 - 3*y + 2", "x + y - 3"], 3, "xy", *self.DOCUMENTS)

    def test_one_equation(self):
        self.check(["x - 1"], 1, "x", "x - 1")
        self.check(["x^3 - 1", "x^2 - 1", "x - 1"], 3, "x", "x - 1")
        self.check(["x^2 + y^2"], 2, "xy", "x^2 + y^2")
        self.check(["x^3 + x*y^2", "x^2*y + y^3", "x^2 + y^2"], 3, "xy", "x^2 + y^2")
        self.check(["x^2 - y^2 - 2*y*z - z^2", "x*y + y^2 + y*z", "x*z + y*z + z^2", "x + y + z"], 2, "xyz", "x + y + z")

    def test_two_equations(self):
        self.check(["z^3 + z + 2", "z^2 - z + 2"], 3, "z", "z^3 + z + 2", "z^2 - z + 2")
        self.check(["x^2 - 2", "y^2 - 2"], 2, "xy", "y^2 - 2", "x^2 - 2")
        self.check(["x - z", "y - z"], 1, "xyz", "x - y", "y - z")

    def test_three_equations(self):
        self.check(["x^2 - 1", "x - 1"], 2, "x", "x^2 - 1", "x - 1", "x^2 - 2*x + 1")
        self.check(["x^2 - 1", "x*y + 1", "y^2 - 1", "x + y"], 2, "xy", "x^2 - 1", "x + y", "x*y + 1")
        self.check(["x - 3", "y + z - 3"], 1, "xyz", "x + y + z - 6", "x - y - z", "y + z - 3")
        self.check(["x - 2", "y - 3", "z - 1"], 1, "xyz", "x + y + z - 6", "x + y - z - 4", "y - z - 2")

    def test_within_a_smaller_and_a_larger_degree(self):
        told = ["x^2", "x*y - 1"]
        self.check([], 1, "xy", *told)
        self.check(["x^2", "x*y - 1"], 2, "xy", *told)
        self.check(["x^3", "x^2*y", "x*y^2 - y", "x^2", "x*y - 1", "x"], 3, "xy", *told)
        self.check(["x^4", "x^3*y", "x^2*y^2", "x*y^3 - y^2", "x^3", "x^2*y", "x*y^2 - y", "x^2", "x*y", "x", "1"],
                   4, "xy", *told)
        # y*(x^2 - y) less x*(x*y - 1) is x - y^2.
        self.check(["x^2 - y", "x*y - 1"], 2, "xy", "x^2 - y", "x*y - 1")
        self.check(["x^3 - 1", "x^2*y - x", "x*y^2 - y", "x^2 - y", "x*y - 1", "y^2 - x"], 3, "xy", "x^2 - y", "x*y - 1")

    def test_fractions(self):
        self.check(["x + 3/10"], 1, "x", "2/3*x + 1/5")
        self.check(["x^2 - 20/21*y + 4/27"], 2, "xy", "3/4*x^2 - 5/7*y + 1/9")
        self.check(["x - 2/9", "y + 1/3"], 1, "xy", "1/2*x + 1/3*y", "1/4*x - 1/6*y - 1/9")
        self.check(["x - 9999/9998"], 1, "x", "9998/9997*x - 9999/9997")

    def test_negative_leading_numbers(self):
        self.check(["x^2 + y^2"], 2, "xy", "-x^2 - y^2")
        self.check(["x - 1/2*y"], 1, "xy", "-2*x + y")
        self.check(["x + 1/2", "y - 1"], 1, "xy", "-2*x - y", "-y + 1")

    def test_an_equation_that_is_a_multiple_of_another(self):
        self.check(["x + y"], 1, "xy", "x + y", "2*x + 2*y")
        self.check(["x + y"], 1, "xy", "2/3*x + 2/3*y", "x + y", "-x - y")
        wanted = ["x^2 - y^2", "x*y + y^2", "x + y"]
        self.check(wanted, 2, "xy", "x + y")
        self.check(wanted, 2, "xy", "x + y", "x + y")
        self.check(wanted, 2, "xy", "x + y", "x + y", "x + y")
        self.check(wanted, 2, "xy", "x + y", "x*y + y^2")
        self.check(wanted, 2, "xy", "x*y + y^2", "x + y")

    def test_the_order_of_equations_doesnt_count(self):
        wanted = ["x^2 - 1", "x*y - x", "y^2 - 1", "y - 1"]
        self.check(wanted, 2, "xy", "x^2 - y", "y - 1")
        self.check(wanted, 2, "xy", "y - 1", "x^2 - y")
        self.check(wanted, 2, "xy", "0", "y - 1", "x^2 - y")

    def test_the_number_1_follows(self):
        self.check(["x", "1"], 1, "x", "x", "x - 1")
        self.check(["x^2", "x", "1"], 2, "x", "x^2 - 1", "x + 2")
        self.check(products(2, "xy"), 2, "xy", "x + y", "x - y", "x - 1")
        # Within the same degree it isn't taken times all products.
        self.check(["x^2 - y^2", "x*y + y^2", "x*z + y*z", "x", "y", "z", "1"], 2, "xyz", "x + y", "x + y - 1")
        self.check(["x^3", "x^2", "x", "1"], 3, "x", "x^3 - 7", "x^3 - 8", "x - 2")

    def test_the_higher_product_is_that_of_higher_degree_then_of_earlier_letters(self):
        self.check(["x*z - y^2"], 2, "xyz", "x*z - y^2")
        self.check(["x*z - y^2"], 2, "xyz", "-x*z + y^2")
        self.check(["z^3 - x^2"], 3, "xyz", "z^3 - x^2")
        self.check(["a - b"], 1, "ab", "a - b")
        self.check(["a*z - b^2", "b*z - z^2"], 2, "abz", "b*z - z^2", "a*z - b^2")

    def test_letters_are_named_as_told(self):
        answer = equations.basis(2, letter_numbers("cq"), [to_bytes("10*c^2 + 10*q")])
        self.assertEqual(answer, [1, 7] + to_bytes("c^2 + q"))
        self.check(["a^2 - z^2", "a*z + z^2", "a + z"], 2, "az", "a + z")
        self.check(["c - 2", "m - 3"], 1, "cmt", "c + m - 5", "c - m + 1")


class Edges(Case):
    def test_no_equation(self):
        for d in range(6):
            for letters in ([23], [23, 24], [0, 24, 25]):
                self.assertEqual(equations.basis(d, letters, []), [0])
        self.check([], 5, "xyz")

    def test_equation_0(self):
        self.check([], 0, "x", "0")
        self.check([], 5, "xyz", "0", "0", "0")
        self.check(["x^2 - 9/4", "x + 3/2"], 2, "x", "0", "2*x + 3", "0")

    def test_numbers_alone(self):
        self.check(["1"], 0, "x", "5")
        self.check(["1"], 0, "xyz", "-9998/9999")
        self.check(["x", "1"], 1, "x", "-1/2")
        self.check(["x^2", "x*y", "y^2", "x", "y", "1"], 2, "xy", "7")
        self.check(products(3, "xy"), 3, "xy", "x^2 - y", "7", "x")

    def test_an_equation_of_a_degree_above_d(self):
        self.check([], 1, "x", "x^2")
        self.check([], 4, "xyz", "x*y^2*z^2 - 1", "x^5")
        self.check(["x"], 1, "x", "x^2 - 1", "x")
        self.check(["x - 7"], 1, "x", "x - 7", "x^5", "x^2 - 1")
        self.check(["1"], 0, "x", "x^5", "2")

    def test_degree_0(self):
        self.check([], 0, "xyz", "x", "y", "z")
        self.check(["1"], 0, "xyz", "x", "y", "-9/8")
        self.check(["1"], 0, "x", "2", "3", "0")

    def test_degree_5(self):
        self.check(["x^5 - x^4"], 5, "x", "x^5 - x^4")
        self.check(["x^5 - 1", "x^4 - 1", "x^3 - 1", "x^2 - 1", "x - 1"], 5, "x", "x - 1")
        self.check(["x^5", "x^4*y", "x^3*y^2 - 1/2*y^5"], 5, "xy", "x^5", "x^4*y", "2*x^3*y^2 - y^5")
        found = basis(5, "xyz", "x - 2", "y + 1", "z - 1/3")
        self.check_found(found, 5, "xyz", ["x - 2", "y + 1", "z - 1/3"])
        self.assertEqual(len(found), 55)
        self.assertEqual(found[0], "x^5 - 32")
        self.assertIn("x^2*y*z^2 + 4/9", found)
        self.assertEqual(found[-1], "z - 1/3")

    def test_56_polynomials(self):
        every_product = products(5, "xyz")
        self.assertEqual(len(every_product), 56)
        self.check(every_product, 5, "xyz", "-3/4")
        self.check(every_product, 5, "xyz", "x - 1", "x*y*z - 2/3", "9999/7")
        answer = equations.basis(5, [23, 24, 25], [to_bytes("9")])
        self.assertEqual(answer[:5], [56, 3] + to_bytes("x^5"))
        self.assertEqual(answer[-2:], [1, 49])

    def test_how_many_equations(self):
        self.check(["x - 3", "y - 2", "z - 1"], 1, "xyz", "x - y - z", "y - 2", "z - 1")
        self.assertEqual(basis(1, "xyz", "x - y - z", "y - 2", "z - 1", "0"), -2)
        self.assertEqual(basis(1, "xyz", "0", "0", "0", "0"), -2)

    def test_twelve_products(self):
        sum_of_twelve = ("x^4 + x^3*y + x^2*y^2 + x*y^3 + y^4 + x^3 + x^2*y + x*y^2 + y^3 + x^2 + x*y - 1/9999")
        self.check([sum_of_twelve], 4, "xy", sum_of_twelve)
        self.check(products(4, "xy"), 4, "xy", sum_of_twelve, "x", "y")


class LargeNumbers(Case):
    def check_large(self, count, digits, *told):
        found = basis(5, "xyz", *told)
        self.assertEqual(len(found), count)
        self.assertGreaterEqual(digits_of(found), digits)
        self.assertEqual(found, basis_again(5, "xyz", *told))
        self.check_found(found, 5, "xyz", told)

    def test_one_equation(self):
        self.check_large(20, 50, LARGE_FIRST)
        self.check_large(10, 30, LARGE_TWELVE)

    def test_two_equations(self):
        self.check_large(36, 400, LARGE_FIRST, LARGE_SECOND)
        self.check_large(29, 400, LARGE_TWELVE, LARGE_SECOND)

    def test_three_equations(self):
        self.check_large(44, 900, LARGE_FIRST, LARGE_SECOND, LARGE_TWELVE)

    def test_the_order_of_equations_doesnt_count(self):
        found = basis(5, "xyz", LARGE_FIRST, LARGE_SECOND, LARGE_TWELVE)
        self.assertEqual(basis(5, "xyz", LARGE_TWELVE, LARGE_SECOND, LARGE_FIRST), found)

    def test_a_number_alone_among_them(self):
        self.assertEqual(basis(5, "xyz", LARGE_FIRST, LARGE_SECOND, LARGE_THIRD), products(5, "xyz"))


if __name__ == "__main__":
    unittest.main()
