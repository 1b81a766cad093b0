"""Many polynomials, the same each time, against the document's words told in another way."""

import random
import unittest

from tests.helper import basis
from tests.helper import basis_again
from tests.helper import degree
from tests.helper import fits
from tests.helper import follows
from tests.helper import follows_again
from tests.helper import kept_multiples
from tests.helper import left
from tests.helper import left_again
from tests.helper import plus
from tests.helper import products_within
from tests.helper import random_polynomial
from tests.helper import read
from tests.helper import times
from tests.helper import when
from tests.helper import when_again
from tests.helper import witness
from tests.helper import witness_again
from tests.helper import without
from tests.helper import without_again
from tests.helper import write


def random_told(rng, names):
    told = [random_polynomial(rng, names, rng.randint(0, 3), 4, 3, rng.choice([1, 1, 3]))
            for index in range(rng.randint(0, 3))]
    if len(told) > 1 and rng.random() < 0.3:
        # So that multiples that aren't needed come up more often than by chance.
        product = rng.choice(products_within(1, len(names)))
        told[-1] = times({product: rng.choice([1, -2])}, told[0])
    return told


def random_p(rng, names, d, told):
    """Now and then one that follows for certain."""
    if rng.random() < 0.3:
        return random_polynomial(rng, names, d, 4, 3, 2)
    p = {}
    for equation in told:
        if degree(equation) <= d:
            factor = random_polynomial(rng, names, d - degree(equation), 2, 2, 1)
            p = plus(p, times(factor, equation))
    return p


def random_case_with_more(seed):
    """Now and then p is made so that it follows but for a few products."""
    d, names, p, *told = random_case(seed)
    rng = random.Random(100000 + seed)
    more = plus(read(p, names), random_polynomial(rng, names, d, 3, 3, 2))
    if rng.random() < 0.6 and fits(more):
        p = write(more, names)
    return (d, names, p) + tuple(told)


def random_case(seed):
    rng = random.Random(seed)
    names = rng.choice(["x", "xy", "xyz", "ab", "amz"])
    d = rng.randint(0, 5 if len(names) < 3 else 4)
    told = random_told(rng, names)
    p = random_p(rng, names, d, told)
    if not fits(p):
        p = {}
    return (d, names, write(p, names)) + tuple(write(equation, names) for equation in told)


def random_case_without(seed):
    d, names, p, *told = random_case(seed)
    rng = random.Random(200000 + seed)
    gone = rng.sample(names, rng.choice([1, 1, len(names) - 1 or 1, len(names)]))
    return (d, names, "".join(sorted(gone))) + tuple(told)


def cases_beyond(seed):
    """What follows within d + 1 or d + 2 and has no degree above d: within d it may follow or not."""
    rng = random.Random(seed)
    names = rng.choice(["xy", "xyz"])
    told = [random_polynomial(rng, names, rng.randint(1, 3), 3, 1, 1) for index in range(rng.randint(2, 3))]
    d = rng.randint(1, 3)
    for highest, (p, how) in kept_multiples(d + rng.randint(1, 2), names, told).items():
        if sum(highest) <= d and fits(p):
            yield (d, names, write(p, names)) + tuple(write(equation, names) for equation in told)


class AgainstTheWords(unittest.TestCase):
    def test_follows(self):
        seen = {True: 0, False: 0}
        for seed in range(600):
            case = random_case(seed)
            with self.subTest(case=case):
                wanted = follows_again(*case)
                self.assertEqual(follows(*case), wanted)
                seen[wanted == 0] += 1
        self.assertGreater(min(seen.values()), 50)

    def test_left(self):
        seen = {"nothing": 0, "p": 0, "else": 0}
        for seed in range(600):
            d, names, p, *told = random_case_with_more(3000 + seed)
            with self.subTest(d=d, names=names, p=p, told=told):
                rest = left(d, names, p, *told)
                self.assertEqual(rest, left_again(d, names, p, *told))
                self.check_rest(d, names, p, rest, told)
                seen["nothing" if rest == "0" else "p" if rest == p else "else"] += 1
        self.assertGreater(min(seen.values()), 50, seen)

    def check_rest(self, d, names, p, rest, told):
        rest_terms = read(rest, names)
        if fits(rest_terms):
            self.assertEqual(left(d, names, rest, *told), rest)
        difference = plus(read(p, names), rest_terms, -1)
        if fits(difference):
            self.assertNotEqual(follows(d, names, write(difference, names), *told), 0)

    def test_witness(self):
        seen = {"refused": 0, "one": 0, "several": 0}
        for seed in range(600):
            case = random_case_with_more(5000 + seed)
            with self.subTest(case=case):
                found = witness(*case)
                self.assertEqual(found, witness_again(*case))
                seen["refused" if found == -5 else "one" if len(found) == 1 else "several"] += 1
        self.assertGreater(min(seen.values()), 50, seen)

    def test_basis(self):
        seen = {"none": 0, "one": 0, "several": 0}
        for seed in range(600):
            d, names, p, *told = random_case(7000 + seed)
            with self.subTest(d=d, names=names, told=told):
                found = basis(d, names, *told)
                self.assertEqual(found, basis_again(d, names, *told))
                seen["none" if found == [] else "one" if len(found) == 1 else "several"] += 1
        self.assertGreater(min(seen.values()), 50, seen)

    def test_without(self):
        seen = {"none": 0, "one": 0, "several": 0}
        for seed in range(900):
            d, names, gone, *told = random_case_without(9000 + seed)
            with self.subTest(d=d, names=names, gone=gone, told=told):
                found = without(d, names, gone, *told)
                self.assertEqual(found, without_again(d, names, gone, *told))
                seen["none" if found == [] else "one" if len(found) == 1 else "several"] += 1
        self.assertGreater(min(seen.values()), 50, seen)

    def test_beyond_the_degree(self):
        seen = {True: 0, False: 0}
        for seed in range(250):
            for case in cases_beyond(seed):
                with self.subTest(case=case):
                    wanted = follows_again(*case)
                    self.assertEqual(follows(*case), wanted)
                    self.assertEqual(when(*case[1:]), when_again(*case[1:]))
                    self.assertEqual(left(*case), left_again(*case))
                    self.assertEqual(witness(*case), witness_again(*case))
                    d, names, p, *told = case
                    self.assertEqual(basis(d, names, *told), basis_again(d, names, *told))
                    for gone in names:
                        self.assertEqual(without(d, names, gone, *told), without_again(d, names, gone, *told))
                    seen[wanted == 0] += 1
        self.assertGreater(min(seen.values()), 50)

    def test_when(self):
        seen = {}
        for seed in range(300):
            d, *case = random_case(1000 + seed)
            with self.subTest(case=case):
                wanted = when_again(*case)
                self.assertEqual(when(*case), wanted)
                seen[wanted] = seen.get(wanted, 0) + 1
        self.assertEqual(sorted(seen), [-5, 0, 1, 2, 3, 4, 5])


if __name__ == "__main__":
    unittest.main()
