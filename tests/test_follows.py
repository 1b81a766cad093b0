"""follows: whether something follows within a degree, and how."""

import unittest

from equationfollow import equations
from tests.helper import LARGE_FIRST
from tests.helper import LARGE_SECOND
from tests.helper import LARGE_THIRD
from tests.helper import LARGE_TWELVE
from tests.helper import digits_of
from tests.helper import follows
from tests.helper import follows_again
from tests.helper import letter_numbers
from tests.helper import to_bytes
from tests.helper import total_of


class Case(unittest.TestCase):
    def check(self, d, names, p, told, wanted):
        self.assertEqual(follows(d, names, p, *told), wanted)
        self.assertEqual(follows_again(d, names, p, *told), wanted)
        if wanted != 0:
            self.assertEqual(total_of(names, wanted, told), p)


class Ordinary(Case):
    def test_the_documents_example_number_by_number(self):
        texts = [to_bytes("x^2 + y^2 - 5"), to_bytes("x + y - 3"), to_bytes("x*y - 2")]
        answer = equations.follows(2, [23, 24], texts)
        self.assertEqual(answer, [1, 9] + to_bytes("x + y + 3") + [2] + to_bytes("-2"))
        self.assertIs(type(answer), list)
        self.assertEqual({type(number) for number in answer}, {int})

    def test_the_documents_example(self):
        self.check(2, "xy", "x^2 + y^2 - 5", ["x + y - 3", "x*y - 2"], ["x + y + 3", "-2"])

    def test_within_a_larger_degree_alone(self):
        told = ["x^2", "x*y - 1"]
        self.check(2, "xy", "x", told, 0)
        self.check(3, "xy", "x", told, ["y", "-x"])
        self.check(3, "xy", "1", told, 0)
        self.check(4, "xy", "1", told, ["y^2", "-x*y - 1"])

    def test_one_letter(self):
        self.check(3, "a", "a^3 - 1", ["a - 1"], ["a^2 + a + 1"])
        self.check(3, "a", "a^3 + 1", ["a - 1"], 0)
        self.check(2, "z", "z - 1", ["z^2 - 1", "z^2 - 2*z + 1"], ["1/2", "-1/2"])

    def test_three_letters(self):
        told = ["a - b", "b - m"]
        self.check(1, "abm", "a - m", told, ["1", "1"])
        # a*(b - m) is a sum of multiples before it, so it isn't taken.
        self.check(2, "abm", "a^2 - m^2", told, ["a + b", "b + m"])
        self.check(2, "xyz", "x*y + x*z + y*z", ["x + y + z", "x^2 + y^2 + z^2"], ["1/2*x + 1/2*y + 1/2*z", "-1/2"])

    def test_letters_told_need_not_be_there(self):
        self.check(2, "ghi", "g^2 - 4", ["g - 2"], ["g + 2"])
        self.check(2, "ghi", "g*h - 2*h", ["g - 2"], ["h"])

    def test_fractions(self):
        self.check(1, "x", "x", ["2/3*x"], ["3/2"])
        self.check(1, "xy", "1/6*x - 5/7", ["1/2*x + 1/3*y", "7/9*y + 5"], ["1/3", "-1/7"])
        self.check(1, "xy", "1/2*x - 1/14", ["1/2*x + 1/3*y", "7/9*y + 1/6"], ["1", "-3/7"])
        self.check(0, "x", "-22/7", ["-11/21"], ["6"])

    def test_several_needed_multiples(self):
        self.check(5, "x", "x^5 - 1", ["x - 1"], ["x^4 + x^3 + x^2 + x + 1"])
        self.check(4, "xy", "x^4 - 2*x^2*y^2 + y^4", ["x^2 - 2*x*y + y^2"], ["x^2 + 2*x*y + y^2"])

    def test_negative_number_first(self):
        self.check(3, "xy", "-x^3 + y^3", ["x - y"], ["-x^2 - x*y - y^2"])


class Needed(Case):
    def test_two_equal_equations(self):
        told = ["x + y", "x + y"]
        self.check(2, "xy", "x^2 - y^2", told, ["x - y", "0"])

    def test_an_equation_times_a_number(self):
        self.check(1, "xy", "x + y", ["2*x + 2*y", "x + y"], ["1/2", "0"])

    def test_an_equation_times_a_product_after_it(self):
        self.check(2, "xy", "x*y + y^2", ["x + y", "x*y + y^2"], ["y", "0"])

    def test_an_equation_times_a_product_ahead_of_it(self):
        told = ["x*y + y^2", "x + y"]
        self.check(2, "xy", "x*y + y^2", told, ["1", "0"])
        self.check(2, "xy", "x^2 + x*y", told, ["0", "x"])
        self.check(2, "xy", "x^2 - y^2", told, ["-1", "x"])

    def test_two_equations_that_are_multiples(self):
        # The second and the third equation are multiples of the first: none of theirs is needed.
        told = ["x + 1", "x*y + y", "x^2 + x"]
        self.check(3, "xy", "x^3 + x^2*y + x^2 + x*y", told, ["x^2 + x*y", "0", "0"])

    def test_the_equations_come_one_behind_another(self):
        # Each of the two has a multiple that is x*y: the one of the equation ahead is needed.
        self.check(2, "xy", "x*y", ["x", "y"], ["y", "0"])
        self.check(2, "xy", "x*y", ["y", "x"], ["x", "0"])

    def test_two_equations_of_one_degree(self):
        told = ["x^2 + y", "x^2 - y"]
        self.check(2, "xy", "y", told, ["1/2", "-1/2"])
        self.check(3, "xy", "x*y", told, ["1/2*x", "-1/2*x"])


class Edges(Case):
    def test_no_equation(self):
        self.assertEqual(equations.follows(0, [23], [to_bytes("0")]), [1])
        self.assertEqual(equations.follows(5, [0, 1, 2], [to_bytes("0")]), [1])
        self.assertEqual(equations.follows(5, [23], [to_bytes("x")]), [0])
        self.assertEqual(equations.follows(0, [23], [to_bytes("1")]), [0])

    def test_equation_0(self):
        self.check(1, "x", "x", ["0"], 0)
        self.check(1, "x", "0", ["0"], ["0"])
        self.check(2, "x", "x^2", ["0", "x", "0"], ["0", "x", "0"])

    def test_p_0(self):
        self.check(0, "xy", "0", ["x + y"], ["0"])
        self.check(5, "xyz", "0", ["x + y", "x - y", "z"], ["0", "0", "0"])

    def test_numbers_alone(self):
        self.check(0, "x", "3", ["5"], ["3/5"])
        self.check(2, "x", "x^2 + 1", ["-1/2"], ["-2*x^2 - 2"])
        self.check(0, "x", "7", ["x"], 0)
        self.check(5, "x", "7", ["x"], 0)
        self.check(1, "x", "7", ["x", "x - 1"], ["7", "-7"])

    def test_an_equation_of_a_degree_above_d(self):
        self.check(1, "x", "x", ["x^5", "x"], ["0", "1"])
        self.check(1, "x", "x", ["x^2"], 0)
        self.check(0, "x", "0", ["x^5"], ["0"])
        self.check(0, "x", "1", ["x^5", "x"], 0)

    def test_an_equation_of_degree_d(self):
        self.check(5, "x", "x^5", ["x^5"], ["1"])
        self.check(4, "x", "x^4", ["x^5"], 0)

    def test_degree_5(self):
        self.check(5, "xyz", "x^2*y^2*z", ["x*y", "z"], ["x*y*z", "0"])
        self.check(5, "xyz", "x^5 - z^5", ["x - y", "y - z"],
                   ["x^4 + x^3*y + x^2*y^2 + x*y^3 + y^4", "y^4 + y^3*z + y^2*z^2 + y*z^3 + z^4"])

    def test_twelve_products_and_four_digits(self):
        p = ("9999*x^4 + 9999*x^3*y + 9999*x^2*y^2 + 9999*x*y^3 + 9999*y^4 + 9999*x^3 + 9999*x^2*y"
             " + 9999*x*y^2 + 9999*y^3 + 9999*x^2 + 9999*x*y - 1/9999")
        self.assertEqual(p.count("9999"), 12)
        self.check(4, "xy", p, [p], ["1"])
        self.check(5, "xy", p, ["x", p], ["0", "1"])

    def test_the_letters_a_and_z(self):
        self.check(2, "az", "a^2 - z^2", ["a + z"], ["a - z"])


class LargeNumbers(Case):
    def check_large(self, d, names, p, told, digits):
        answer = follows(d, names, p, *told)
        self.assertNotEqual(answer, 0)
        self.assertEqual(answer, follows_again(d, names, p, *told))
        self.assertEqual(total_of(names, answer, told), p)
        self.assertGreaterEqual(digits_of(answer), digits)

    def test_three_letters(self):
        p = "x^5 - y^3*z^2 + z^5 + 7/11*x"
        self.check_large(5, "xyz", p, [LARGE_FIRST, LARGE_SECOND, LARGE_THIRD], 200)

    def test_twelve_products(self):
        p = "x^5 + 9999/9998*y^5 - z^5 + x*y*z"
        self.check_large(5, "xyz", p, [LARGE_TWELVE, LARGE_FIRST, LARGE_THIRD], 200)

    def test_no_solution(self):
        told = ["9973/9967*x^2 - 8861/8849*x*y + 7001/6997*y^2 + 6007/6011*x - 5003/5009*y + 4003/4001",
                "3001/3011*x^2 + 2003/2011*x*y - 1009/1013*y^2 - 9001/9007*x + 8009/8011*y - 7013/7019",
                "6029/6037*x^2 - 5011/5021*x*y + 4007/4013*y^2 + 3019/3023*x + 2017/2027*y + 1019/1021"]
        self.check_large(5, "xy", "1", told, 200)

    def test_one_that_does_not_follow(self):
        self.check(5, "xyz", "x^5 - 1", [LARGE_FIRST, LARGE_SECOND, LARGE_TWELVE], 0)

    def test_letters_are_named_as_told(self):
        answer = equations.follows(1, letter_numbers("cq"), [to_bytes("c + q"), to_bytes("10*c + 10*q")])
        self.assertEqual(answer, [1, 4] + to_bytes("1/10"))


if __name__ == "__main__":
    unittest.main()
