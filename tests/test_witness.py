"""witness: a valuing of products by which all that follows within a degree is 0 and p isn't."""

import unittest

from equationfollow import equations
from tests.helper import LARGE_FIRST
from tests.helper import LARGE_SECOND
from tests.helper import LARGE_THIRD
from tests.helper import LARGE_TWELVE
from tests.helper import digits_of
from tests.helper import follows
from tests.helper import highest_of
from tests.helper import left
from tests.helper import letter_numbers
from tests.helper import multiples
from tests.helper import order
from tests.helper import products_within
from tests.helper import read
from tests.helper import to_bytes
from tests.helper import value_by
from tests.helper import witness
from tests.helper import witness_again
from tests.helper import write


class Case(unittest.TestCase):
    def check_found(self, found, d, names, p, told):
        """What the document asks of any witness, told without how it is found."""
        self.assertEqual(found, witness_again(d, names, p, *told))
        self.assertEqual(follows(d, names, p, *told), 0)
        equations_told = [read(text, names) for text in told]
        for label, multiple in multiples(d, len(names), equations_told):
            self.assertEqual(value_by(found, names, multiple), 0, label)
        rest = read(left(d, names, p, *told), names)
        highest = highest_of(rest)
        self.assertEqual(dict(found)[write({highest: 1}, names)], "1")
        self.assertEqual(value_by(found, names, read(p, names)), rest[highest])
        products = [order(max(read(product, names))) for product, number in found]
        self.assertEqual(products, sorted(products, reverse=True))
        self.assertNotIn("0", [number for product, number in found])

    def check(self, wanted, d, names, p, *told):
        found = witness(d, names, p, *told)
        self.assertEqual(found, wanted)
        self.check_found(found, d, names, p, told)

    def check_follows(self, d, names, p, *told):
        self.assertEqual(equations.witness(d, letter_numbers(names), [to_bytes(text) for text in (p,) + told]), [-5])
        self.assertEqual(witness_again(d, names, p, *told), -5)
        self.assertIsInstance(follows(d, names, p, *told), list)


class Ordinary(Case):
    def test_number_by_number(self):
        texts = [to_bytes("x"), to_bytes("x^2 + 1/2*x")]
        answer = equations.witness(2, [23], texts)
        self.assertEqual(answer, [2, 3] + to_bytes("x^2") + [4] + to_bytes("-1/2") + [1] + to_bytes("x") + [1] + to_bytes("1"))
        self.assertIs(type(answer), list)
        self.assertEqual({type(number) for number in answer}, {int})

    def test_the_product_without_letters_number_by_number(self):
        texts = [to_bytes("x"), to_bytes("x + 12")]
        answer = equations.witness(1, [23], texts)
        self.assertEqual(answer, [2, 1] + to_bytes("x") + [3] + to_bytes("-12") + [1] + to_bytes("1") + [1] + to_bytes("1"))

    def test_the_documents_equations(self):
        told = ["x + y - 3", "x*y - 2"]
        # x^2 is 7 - 3*y, x*y is 2, y^2 is 3*y - 2 and x is 3 - y.
        numbers = [("x^2", "7"), ("x*y", "2"), ("y^2", "-2"), ("x", "3"), ("1", "1")]
        self.check(numbers, 2, "xy", "x^2 + y^2", *told)
        self.check(numbers, 2, "xy", "1", *told)
        self.check(numbers, 2, "xy", "x^2 + 7/8*x*y + y^2", *told)
        self.check([("x^2", "-3"), ("y^2", "3"), ("x", "-1"), ("y", "1")], 2, "xy", "x", *told)
        self.check([("x", "-1"), ("y", "1")], 1, "xy", "x", *told)
        self.check_follows(2, "xy", "x^2 + y^2 - 5", *told)

    def test_one_letter(self):
        self.check([("a^3", "1"), ("a^2", "1"), ("a", "1"), ("1", "1")], 3, "a", "a^3 + 1", "a - 1")
        self.check([("a^3", "-1"), ("a^2", "1"), ("a", "-1"), ("1", "1")], 3, "a", "a^3", "a + 1")
        self.check([("z^4", "4"), ("z^2", "2"), ("1", "1")], 4, "z", "1", "z^2 - 2")
        self.check([("z^5", "4"), ("z^3", "2"), ("z", "1")], 5, "z", "z - 7", "z^2 - 2")

    def test_three_letters(self):
        told = ["a - b", "b - m"]
        self.check([("a", "1"), ("b", "1"), ("m", "1")], 1, "abm", "a - 9", *told)
        squares = ["a^2", "a*b", "a*m", "b^2", "b*m", "m^2"]
        self.check([(product, "1") for product in squares], 2, "abm", "a*b + a + 1", *told)
        self.check([("x*z", "1"), ("y^2", "1")], 2, "xyz", "y^2 + x", "x*z - y^2")

    def test_fractions(self):
        self.check([("x", "-3/10"), ("1", "1")], 1, "x", "x", "2/3*x + 1/5")
        self.check([("x", "4/9"), ("y", "-2/3"), ("1", "1")], 1, "xy", "y", "1/2*x + 1/3*y", "3/4*y + 1/2")
        self.check([("x^3", "8/27"), ("x^2", "4/9"), ("x", "2/3"), ("1", "1")], 3, "x", "x^3", "3*x - 2")
        self.check([("x^3", "-8/27"), ("x^2", "4/9"), ("x", "-2/3"), ("1", "1")], 3, "x", "-x^3", "-3*x - 2")

    def test_ps_numbers_dont_count_beyond_what_is_highest(self):
        told = ["x^2 - 2*y"]
        wanted = [("x^2", "2"), ("y", "1")]
        for p in ["x^2", "y", "-3*y", "1/2*x^2 + 5", "y + 1", "9999*y - 9999/9998"]:
            self.check(wanted, 2, "xy", p, *told)
        self.check([("x", "1")], 2, "xy", "x^2 + x", *told)
        self.check([("1", "1")], 2, "xy", "x^2 - 2*y - 1", *told)

    def test_within_a_smaller_and_a_larger_degree(self):
        told = ["x^2", "x*y - 1"]
        self.check([("x", "1")], 1, "xy", "x", *told)
        self.check([("x", "1")], 2, "xy", "x", *told)
        self.check_follows(3, "xy", "x", *told)
        self.check([("1", "1")], 1, "xy", "1", *told)
        self.check([("x*y", "1"), ("1", "1")], 3, "xy", "1", *told)
        self.check_follows(4, "xy", "1", *told)

    def test_an_equation_that_is_a_multiple_of_another(self):
        wanted = [("x^2", "1"), ("x*y", "-1"), ("y^2", "1")]
        self.check(wanted, 2, "xy", "x^2", "x + y", "2*x + 2*y")
        self.check(wanted, 2, "xy", "x^2", "x*y + y^2", "x + y", "-1/3*x - 1/3*y")

    def test_letters_are_named_as_told(self):
        self.check([("a", "-5"), ("z", "1")], 1, "az", "a", "a + 5*z")
        self.check([("c^2*q", "3"), ("c*q^2", "1")], 3, "cq", "c^2*q", "c^2*q - 3*c*q^2")


class Edges(Case):
    def test_no_equation(self):
        self.check([("x", "1")], 1, "x", "x")
        self.check([("x", "1")], 5, "x", "-7/3*x + 1")
        self.check([("1", "1")], 0, "x", "7")
        self.check([("1", "1")], 5, "xyz", "-1/2")
        self.check([("x^5", "1")], 5, "x", "2*x^5 - x^4")
        self.check([("x*z", "1")], 4, "xyz", "x*z + y^2 + x")
        self.check([("x*y^2*z", "1")], 5, "xyz", "9*x*y^2*z - 1")

    def test_equation_0(self):
        self.check([("x", "1")], 1, "x", "x", "0")
        self.check([("x", "1")], 1, "x", "x + 4", "0", "0", "0")
        self.check([("x", "-3"), ("1", "1")], 1, "x", "x + 4", "0", "x + 3", "0")

    def test_an_equation_of_a_degree_above_d(self):
        self.check([("x", "1")], 1, "x", "x", "x^2 - x")
        self.check([("x^2", "1"), ("x", "1")], 2, "x", "x", "x^2 - x")
        self.check([("1", "1")], 0, "x", "1", "x^5", "x - 1")
        self.check([("x", "1"), ("1", "1")], 1, "x", "x", "x^5", "x - 1")

    def test_degree_0(self):
        self.check([("1", "1")], 0, "xyz", "-7/2", "x", "y", "z")
        self.check([("1", "1")], 0, "xyz", "5", "0")
        self.check_follows(0, "xyz", "5", "-9/8")
        self.check_follows(0, "xyz", "0")

    def test_degree_5(self):
        products = [write({product: 1}, "xyz") for product in products_within(5, 3) if sum(product) == 5][::-1]
        self.assertEqual(len(products), 21)
        self.check([(product, "1") for product in products], 5, "xyz", "x^5", "x - y", "y - z")
        self.check([("x^5", "1"), ("1", "1")], 5, "x", "x^5", "x^5 - 1")
        self.check([("x^4", "1")], 5, "x", "x^4", "x^5 - 1")
        self.check([("x^5", "-32"), ("x^4", "16"), ("x^3", "-8"), ("x^2", "4"), ("x", "-2"), ("1", "1")],
                   5, "x", "x^3", "x + 2")

    def test_all_products_of_the_witness(self):
        # By a point that the equations allow, each product is valued as it is there.
        found = witness(5, "xyz", "1", "x - 2", "y + 1", "z - 1/3")
        self.check_found(found, 5, "xyz", "1", ["x - 2", "y + 1", "z - 1/3"])
        self.assertEqual(len(found), 56)
        self.assertEqual(found[0], ("x^5", "32"))
        self.assertEqual(found[-1], ("1", "1"))
        self.assertEqual(dict(found)["x^2*y*z^2"], "-4/9")

    def test_p_that_follows(self):
        self.check_follows(1, "x", "x", "x")
        self.check_follows(5, "x", "x^5 - 1", "x - 1")
        self.check_follows(5, "xyz", "x^5 - y*z + 9999/9998", "x", "-1/2")
        self.check_follows(2, "abm", "a^2 - m^2", "a - b", "b - m")

    def test_p_0(self):
        for d in range(6):
            self.check_follows(d, "x", "0")
            self.check_follows(d, "xy", "0", "x + y")
            self.check_follows(d, "xyz", "0", "0", "x^5", "1")

    def test_ps_degree_just_d_and_one_above(self):
        for d, p in enumerate(["1", "x", "x*y", "x^2*y", "x*y^3", "x^5"]):
            self.check([(p, "1")], d, "xy", p)
            self.check_follows(d, "xy", p, "1")
            if d > 0:
                # Also where it would follow within d, or within more.
                self.assertEqual(witness(d - 1, "xy", p), -6)
                self.assertEqual(witness(d - 1, "xy", p, "1"), -6)
                self.assertEqual(witness(d - 1, "xy", p, p), -6)
                self.assertEqual(witness(d - 1, "xy", p, "0", "0"), -6)


class LargeNumbers(Case):
    def check_large(self, d, names, p, told, digits):
        found = witness(d, names, p, *told)
        self.check_found(found, d, names, p, told)
        self.assertGreaterEqual(digits_of([number for product, number in found]), digits)
        self.assertTrue(any(number.startswith("-") for product, number in found))

    def test_two_equations(self):
        self.check_large(5, "xyz", "x^5 - 1", [LARGE_FIRST, LARGE_SECOND], 200)

    def test_three_equations(self):
        self.check_large(5, "xyz", "x^5 - 1/7*x + 1", [LARGE_FIRST, LARGE_SECOND, LARGE_TWELVE], 600)
        self.check_large(5, "xyz", "1", [LARGE_TWELVE, LARGE_SECOND, LARGE_FIRST], 600)

    def test_large_on_both_sides(self):
        self.check_large(5, "xyz", LARGE_TWELVE, [LARGE_FIRST, LARGE_SECOND], 300)

    def test_what_follows(self):
        self.check_follows(5, "xyz", "x^5 - y^3*z^2 + z^5 + 7/11*x", LARGE_FIRST, LARGE_SECOND, LARGE_THIRD)
        self.check_follows(5, "xyz", LARGE_TWELVE, LARGE_FIRST, LARGE_TWELVE, LARGE_SECOND)


if __name__ == "__main__":
    unittest.main()
