"""without: the basis of all that follows within a degree and has none of some letters."""

import unittest

from equationfollow import equations
from tests.helper import BasisCase
from tests.helper import LARGE_FIRST
from tests.helper import LARGE_SECOND
from tests.helper import LARGE_THIRD
from tests.helper import LARGE_TWELVE
from tests.helper import basis
from tests.helper import digits_of
from tests.helper import left
from tests.helper import letter_numbers
from tests.helper import products_without
from tests.helper import read
from tests.helper import rest_by
from tests.helper import times
from tests.helper import to_bytes
from tests.helper import without
from tests.helper import without_again
from tests.helper import write

# With it few points are left, so that something follows without two letters.
LARGE_PLANE = "7907/9871*x - 7901/9859*y + 6841/9857*z - 5039/9851"


class Case(BasisCase):
    def check_has_none(self, names, gone, polynomials):
        places = [names.index(name) for name in gone]
        for polynomial in polynomials:
            for product in polynomial:
                self.assertEqual([product[place] for place in places], [0] * len(places))

    def check_all(self, d, names, gone, polynomials, told):
        """What follows without these within less, times products without these, is made of what is answered."""
        for smaller in range(d):
            for text in without(smaller, names, gone, *told):
                for product in products_without(d - smaller, names, gone):
                    multiple = times({product: 1}, read(text, names))
                    self.assertEqual(rest_by(polynomials, multiple), {})
        # So is what the whole basis has without these.
        for text in basis(d, names, *told):
            if not any(name in text for name in gone):
                self.assertEqual(rest_by(polynomials, read(text, names)), {})

    def check_found(self, found, d, names, gone, told):
        """What the document asks of it, told without how it is found."""
        polynomials = [read(text, names) for text in found]
        self.assertEqual([write(polynomial, names) for polynomial in polynomials], found)
        self.check_form(polynomials)
        self.check_has_none(names, gone, polynomials)
        self.check_follows(d, names, polynomials, told)

    def check(self, wanted, d, names, gone, *told):
        found = without(d, names, gone, *told)
        self.assertEqual(found, wanted)
        self.assertEqual(without_again(d, names, gone, *told), wanted)
        self.check_found(found, d, names, gone, told)
        self.check_all(d, names, gone, [read(text, names) for text in found], told)


class Ordinary(Case):
    DOCUMENTS = ("x + y - 3", "x*y - 2")

    def test_number_by_number(self):
        answer = equations.without(2, 2, [23, 24, 23], [to_bytes(text) for text in self.DOCUMENTS])
        self.assertEqual(answer, [1, 13] + to_bytes("y^2 - 3*y + 2"))
        self.assertIs(type(answer), list)
        self.assertEqual({type(number) for number in answer}, {int})

    def test_several_number_by_number(self):
        answer = equations.without(1, 3, [0, 1, 25, 1], [to_bytes("a + b - 12"), to_bytes("b - 12"), to_bytes("z - 1/2")])
        self.assertEqual(answer, [2, 1] + to_bytes("a") + [7] + to_bytes("z - 1/2"))

    def test_the_documents_equations(self):
        self.check([], 0, "xy", "x", *self.DOCUMENTS)
        self.check([], 1, "xy", "x", *self.DOCUMENTS)
        self.check(["y^2 - 3*y + 2"], 2, "xy", "x", *self.DOCUMENTS)
        self.check(["x^2 - 3*x + 2"], 2, "xy", "y", *self.DOCUMENTS)
        self.check(["y^3 - 7*y + 6", "y^2 - 3*y + 2"], 3, "xy", "x", *self.DOCUMENTS)
        self.check(["x^4 - 15*x + 14", "x^3 - 7*x + 6", "x^2 - 3*x + 2"], 4, "xy", "y", *self.DOCUMENTS)

    def test_three_letters_without_one(self):
        told = ["x - y", "y - z"]
        self.check(["y - z"], 1, "xyz", "x", *told)
        self.check(["x - z"], 1, "xyz", "y", *told)
        self.check(["x - y"], 1, "xyz", "z", *told)
        self.check(["x^2 - z^2", "x*z - z^2", "x - z"], 2, "xyz", "y", *told)
        self.check(["x^2 - y^2", "x*y - y^2", "x - y"], 2, "xyz", "z", *told)
        self.check(["x*z - 1"], 2, "xyz", "y", "x - y", "y*z - 1")

    def test_three_letters_without_two(self):
        told = ["z^2 - x", "y - z", "x + y - 6"]
        self.check(["z^2 + z - 6"], 2, "xyz", "xy", *told)
        self.check(["z^3 - 7*z + 6", "z^2 + z - 6"], 3, "xyz", "xy", *told)
        self.check(["y^2 + y - 6"], 2, "xyz", "xz", *told)
        self.check(["x^2 - 13*x + 36"], 2, "xyz", "yz", *told)
        self.check([], 1, "xyz", "xy", *told)
        self.check([], 5, "xyz", "xy", "x - y", "y - z")

    def test_within_a_larger_degree_only(self):
        # y*(x^2 - y) less x*(x*y - 1) is x - y^2; y times this and x*y - 1 are 1 - y^3.
        told = ["x^2 - y", "x*y - 1"]
        self.check([], 3, "xy", "x", *told)
        self.check(["y^3 - 1"], 4, "xy", "x", *told)
        self.check(["y^4 - y", "y^3 - 1"], 5, "xy", "x", *told)
        self.check(["x^3 - 1"], 3, "xy", "y", *told)
        # With x to be t, y is t^2 and z is t^3.
        told = ["x^2 - y", "x^3 - z"]
        self.check([], 4, "xyz", "x", *told)
        self.check(["y^3 - z^2"], 5, "xyz", "x", *told)
        self.check(["x^3 - z"], 3, "xyz", "y", *told)
        self.check(["x^2 - y"], 2, "xyz", "z", *told)

    def test_the_whole_basis_has_it_only_with_others(self):
        # The basis itself has none without z.
        self.assertEqual(basis(1, "xyz", "x + z", "y + z"), ["x + z", "y + z"])
        self.check(["x - y"], 1, "xyz", "z", "x + z", "y + z")
        self.check(["x^2 + 2"], 2, "xyz", "yz", "x^2 - y", "y - z", "z + 2")

    def test_fractions(self):
        told = ["2*x + 1/3*y", "1/2*x - y + 3/4"]
        self.check(["y - 9/13"], 1, "xy", "x", *told)
        self.check(["x + 3/26"], 1, "xy", "y", *told)
        self.check(["y^2 - 81/169", "y - 9/13"], 2, "xy", "x", *told)
        self.check(["y^2 - 2/3*y + 5/6"], 2, "xy", "x", "y^2 - 3*x", "2*x - 4/9*y + 5/9")
        self.check(["y - 9999/9998*z"], 1, "xyz", "x", "x - 9999/7*z", "x - 9998/7*y")

    def test_negative_leading_numbers(self):
        self.check(["y - 1/2*z"], 1, "xyz", "x", "-x - 2*y", "-x - z")
        self.check(["y^2 + z"], 2, "xyz", "x", "-y^2 - z")

    def test_an_equation_that_is_a_multiple_of_another(self):
        self.check([], 5, "xy", "x", "x + y", "2*x + 2*y")
        self.check([], 5, "xy", "y", "x + y", "x*y + y^2", "x + y")
        self.check(["y + 2"], 1, "xy", "x", "x*y + 2*x", "y + 2", "1/2*y + 1")

    def test_a_letter_that_no_equation_has(self):
        self.check(["x^2 - y^2", "x*y + y^2", "x + y"], 2, "xyz", "z", "x + y")
        self.check([], 2, "xyz", "x", "x")
        self.check(["x^2", "x*y", "x"], 2, "xyz", "z", "x")
        self.check(["x^2", "x"], 2, "xyz", "yz", "x")

    def test_the_number_1_follows(self):
        self.check(["1"], 1, "xy", "x", "x", "x - 1")
        self.check(["1"], 4, "xy", "x", "x^2", "x*y - 1")
        self.check(["y", "1"], 5, "xy", "x", "x^2", "x*y - 1")

    def test_letters_are_named_as_told(self):
        self.check(["q^2 + 7"], 2, "cq", "c", "q^2 + c", "c - 7")
        self.check(["c^2 + 7"], 2, "cq", "q", "c^2 + q", "q - 7")
        self.check(["a - z"], 1, "amz", "m", "a - m", "m - z")


class Edges(Case):
    def test_all_letters(self):
        for names in ("x", "xy", "xyz"):
            self.check([], 5, names, names)
            self.check([], 5, names, names, "x")
            self.check(["1"], 0, names, names, "7/2")
            self.check(["1"], 5, names, names, "7/2")
            self.check(["1"], 1, names, names, "x", "x - 1")
        self.check([], 3, "xy", "xy", "x^2", "x*y - 1")
        self.check(["1"], 4, "xy", "xy", "x^2", "x*y - 1")
        self.assertEqual(equations.without(0, 1, [23, 23], [to_bytes("-5")]), [1, 1, 49])

    def test_nothing_is_without_it(self):
        texts = [to_bytes("x*y - 1")]
        for d in range(6):
            self.assertEqual(equations.without(d, 2, [23, 24, 23], texts), [0])
            self.assertEqual(equations.without(d, 2, [23, 24, 24], texts), [0])
            self.check([], d, "xy", "y", "x*y - 1")
        self.check([], 5, "xyz", "x", "x^5 - y", "x^4 - z")

    def test_no_equation(self):
        for d in range(6):
            for letters in ([23], [23, 24], [0, 24, 25]):
                for gone in (letters, letters[:1], letters[-1:], letters[1:] or letters):
                    self.assertEqual(equations.without(d, len(letters), letters + gone, []), [0])

    def test_equation_0(self):
        self.check([], 0, "x", "x", "0")
        self.check([], 5, "xyz", "y", "0", "0", "0")
        self.check(["y + 3/2"], 1, "xy", "x", "0", "2*y + 3", "0")

    def test_numbers_alone(self):
        self.check(["1"], 0, "xy", "x", "5")
        self.check(["y", "1"], 1, "xy", "x", "-1/2")
        self.check(["x^2", "x*z", "z^2", "x", "z", "1"], 2, "xyz", "y", "7")
        self.check(["z^3", "z^2", "z", "1"], 3, "xyz", "xy", "x^2 - y", "7", "x")

    def test_an_equation_of_a_degree_above_d(self):
        self.check([], 1, "xy", "x", "y^2")
        self.check(["y^2"], 2, "xy", "x", "y^2", "y^3 - 1")
        self.check(["y - 7"], 1, "xy", "x", "y - 7", "y^5", "y^2 - 1")
        self.check([], 1, "xy", "x", "x*y - 2", "x + y - 3")
        self.check(["1"], 0, "xy", "x", "y^5", "2")

    def test_degree_0(self):
        self.check([], 0, "xyz", "x", "x", "y", "z")
        self.check(["1"], 0, "xyz", "z", "x", "y", "-9/8")
        self.check(["1"], 0, "xyz", "xyz", "2", "3", "0")

    def test_degree_5(self):
        self.check(["y^5 - y^4"], 5, "xy", "x", "y^5 - y^4")
        self.check(["y^5 - 32", "y^4 - 16", "y^3 - 8", "y^2 - 4", "y - 2"], 5, "xy", "x", "x - y", "x - 2")
        found = without(5, "xyz", "y", "x - 2", "y + 1", "z - 1/3")
        self.check_found(found, 5, "xyz", "y", ["x - 2", "y + 1", "z - 1/3"])
        self.assertEqual(len(found), 20)
        self.assertEqual(found[0], "x^5 - 32")
        self.assertIn("x^2*z^2 - 4/9", found)
        self.assertEqual(found[-1], "z - 1/3")

    def test_how_many_equations(self):
        self.check(["y - 2", "z - 1"], 1, "xyz", "x", "x - y - z", "y - 2", "z - 1")
        self.assertEqual(without(1, "xyz", "x", "x - y - z", "y - 2", "z - 1", "0"), -2)

    def test_n_0(self):
        for letters in ([], [23], [23, 24], [23, 24, 23], [0] * 12):
            self.assertEqual(equations.without(2, 0, letters, []), [-4])
            self.assertEqual(equations.without(2, 0, letters, [to_bytes("x")]), [-4])

    def test_no_letter_to_be_without(self):
        for names in ("x", "xy", "xyz"):
            self.assertEqual(without(2, names, "", "x"), -4)
            self.assertEqual(without(2, names, ""), -4)

    def test_what_is_left_without_letters(self):
        # What is answered leaves nothing of what is without these letters and has nothing left by the call left.
        told = ["x^2 - y", "x*y - 1"]
        found = [read(text, "xy") for text in without(4, "xy", "x", *told)]
        for p in ["y^3 - 1", "-2/3*y^3 + 2/3", "y^4 - y", "y - 1", "y^2 - y", "1", "y^4"]:
            self.assertEqual(rest_by(found, read(p, "xy")) == {}, left(4, "xy", p, *told) == "0", p)


class LargeNumbers(Case):
    def check_large(self, count, digits, names, gone, *told):
        found = without(5, names, gone, *told)
        self.assertEqual(len(found), count)
        if count > 0:
            self.assertGreaterEqual(digits_of(found), digits)
        self.assertEqual(found, without_again(5, names, gone, *told))
        self.check_found(found, 5, names, gone, told)

    def test_two_equations(self):
        for gone in "xyz":
            self.check_large(3, 150, "xyz", gone, LARGE_FIRST, LARGE_SECOND)
        self.check_large(0, 0, "xyz", "xy", LARGE_FIRST, LARGE_SECOND)

    def test_three_equations(self):
        self.check_large(9, 900, "xyz", "x", LARGE_FIRST, LARGE_SECOND, LARGE_TWELVE)
        self.check_large(9, 900, "xyz", "y", LARGE_TWELVE, LARGE_SECOND, LARGE_FIRST)
        self.check_large(0, 0, "xyz", "xyz", LARGE_FIRST, LARGE_SECOND, LARGE_TWELVE)

    def test_without_two(self):
        for gone in ("xy", "xz", "yz"):
            self.check_large(2, 200, "xyz", gone, LARGE_FIRST, LARGE_PLANE, LARGE_SECOND)

    def test_the_order_of_equations_doesnt_count(self):
        found = without(5, "xyz", "z", LARGE_FIRST, LARGE_SECOND, LARGE_TWELVE)
        self.assertEqual(without(5, "xyz", "z", LARGE_TWELVE, LARGE_FIRST, LARGE_SECOND), found)

    def test_a_number_alone_among_them(self):
        self.assertEqual(without(5, "xyz", "xy", LARGE_FIRST, LARGE_SECOND, LARGE_THIRD),
                         ["z^5", "z^4", "z^3", "z^2", "z", "1"])


if __name__ == "__main__":
    unittest.main()
