"""when: the least degree within which something follows."""

import unittest

from equationfollow import equations
from tests.helper import follows
from tests.helper import to_bytes
from tests.helper import when
from tests.helper import when_again


class Case(unittest.TestCase):
    def check(self, wanted, names, p, *told):
        self.assertEqual(when(names, p, *told), wanted)
        self.assertEqual(when_again(names, p, *told), wanted)


class Ordinary(Case):
    def test_the_documents_example_number_by_number(self):
        texts = [to_bytes("x^2 + y^2 - 5"), to_bytes("x + y - 3"), to_bytes("x*y - 2")]
        answer = equations.when([23, 24], texts)
        self.assertEqual(answer, [2])
        self.assertIs(type(answer), list)
        self.assertIs(type(answer[0]), int)

    def test_the_documents_example(self):
        self.check(2, "xy", "x^2 + y^2 - 5", "x + y - 3", "x*y - 2")

    def test_within_a_degree_above_its_own(self):
        self.check(3, "xy", "x", "x^2", "x*y - 1")
        self.check(4, "xy", "1", "x^2", "x*y - 1")
        self.check(2, "x", "x", "x^2 + x", "x^2 - x")

    def test_just_within_5(self):
        self.check(4, "xy", "x^2", "x^3", "x*y - 1")
        self.check(5, "xy", "x", "x^3", "x*y - 1")
        self.check(5, "x", "x", "x^5 + x", "x^5 - x")

    def test_not_within_5(self):
        self.check(-5, "xy", "1", "x^3", "x*y - 1")
        self.check(-5, "xy", "x^2 + y^2 - 4", "x + y - 3", "x*y - 2")
        self.check(-5, "x", "x", "x^2")
        self.check(-5, "xyz", "x*y*z", "x - y", "y - z")

    def test_three_letters(self):
        self.check(1, "abm", "a - m", "a - b", "b - m")
        self.check(5, "abm", "a^5 - m^5", "a - b", "b - m")
        self.check(2, "xyz", "x*y + x*z + y*z", "x + y + z", "x^2 + y^2 + z^2")

    def test_fractions(self):
        self.check(1, "xy", "1/2*x - 1/14", "1/2*x + 1/3*y", "7/9*y + 1/6")


class Edges(Case):
    def test_no_equation(self):
        self.check(0, "x", "0")
        self.check(0, "xyz", "0")
        self.check(-5, "x", "1")
        self.check(-5, "x", "x")
        self.check(-5, "x", "x^5")

    def test_p_0(self):
        self.check(0, "x", "0", "x")
        self.check(0, "x", "0", "x^5", "0", "1")

    def test_equation_0(self):
        self.check(-5, "x", "x", "0")
        self.check(-5, "x", "1", "0", "0", "0")
        self.check(1, "x", "x", "0", "x")

    def test_a_number_alone(self):
        for d, p in enumerate(["7", "x - 2", "x*y", "x^3 + y", "x^4", "x^2*y^3 - 1"]):
            self.check(d, "xy", p, "-3/4")
            self.check(d, "xy", p, "x^2", "y", "5")

    def test_p_of_degree_5(self):
        self.check(5, "x", "x^5", "x")
        self.check(5, "x", "x^5 - 1", "x - 1")
        self.check(-5, "x", "x^5", "x - 1")

    def test_an_equation_of_degree_5(self):
        self.check(5, "x", "x^5", "x^5")
        self.check(-5, "x", "x^4", "x^5")

    def test_it_follows_from_there_on(self):
        told = ["x^2 - y", "x*y - 1"]
        for p in ["y^2 - x", "x^3 - 1", "y^3 - 1", "x^2*y^2 - 1"]:
            least = when("xy", p, *told)
            self.assertGreater(least, 0)
            for d in range(6):
                answer = follows(d, "xy", p, *told)
                self.assertEqual(isinstance(answer, list), d >= least, (p, d))


if __name__ == "__main__":
    unittest.main()
