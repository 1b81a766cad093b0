"""What is refused, and which of several refusals is answered."""

import unittest

from equationfollow import equations
from tests.helper import to_bytes

LAST = 4294967295
BAD_LETTERS = [[], [23, 24, 25, 25], [0, 1, 2, 3], [24, 23], [23, 23], [23, 24, 24], [25, 24, 23], [26], [23, 26], [23, 24, 26],
               [LAST], [0, LAST], [LAST, 0], [0, 1, 2, 3, 4, 5, 6, 7], [LAST] * 8]
GOOD_LETTERS = [[0], [25], [0, 25], [0, 1, 2], [23, 24, 25], [3, 9, 20]]
TOO_LARGE = [
    "x^6", "x^5*y", "x^3*y^3", "x^6 - 1", "x^99999", "10000", "-10000", "10000*x", "x - 10000", "1/10000", "10000/3", "9999/10000",
    "x + 1/12345*y", "x - 12345/7",
    "x^4 + x^3*y + x^2*y^2 + x*y^3 + y^4 + x^3 + x^2*y + x*y^2 + y^3 + x^2 + x*y + y^2 + x",
    "x^4 + x^3*y + x^2*y^2 + x*y^3 + y^4 + x^3 + x^2*y + x*y^2 + y^3 + x^2 + x*y + y^2 + 1",
]
JUST_FITTING = [
    "x^5", "x^4*y", "x^2*y^3", "9999", "-9999", "9999*x", "1/9999", "9998/9999*x - 9999/9998",
    "x^4 + x^3*y + x^2*y^2 + x*y^3 + y^4 + x^3 + x^2*y + x*y^2 + y^3 + x^2 + x*y + y^2",
    "x^4 + x^3*y + x^2*y^2 + x*y^3 + y^4 + x^3 + x^2*y + x*y^2 + y^3 + x^2 + x*y + 1",
]
OTHER_LETTER = ["z", "a", "x + z", "x*z", "a*x", "x^2 - z^2", "z^6", "10000*z", "a^99999"]


def call_follows(letters, *texts, d=5):
    return equations.follows(d, letters, [to_bytes(text) for text in texts])


def call_when(letters, *texts):
    return equations.when(letters, [to_bytes(text) for text in texts])


def call_left(letters, *texts, d=5):
    return equations.left(d, letters, [to_bytes(text) for text in texts])


def call_witness(letters, *texts, d=5):
    return equations.witness(d, letters, [to_bytes(text) for text in texts])


def call_basis(letters, *texts, d=5):
    return equations.basis(d, letters, [to_bytes(text) for text in texts])


# Without the first letter told.
def call_without(letters, *texts, d=5):
    return equations.without(d, len(letters), letters + letters[:1], [to_bytes(text) for text in texts])


CALLS_WITHIN = (call_follows, call_left, call_witness)
CALLS_WITH_P = CALLS_WITHIN + (call_when,)
CALLS_WITHOUT_P = (call_basis, call_without)


class WithP(unittest.TestCase):
    def refused(self, wanted, letters, *texts):
        for call in CALLS_WITH_P:
            with self.subTest(call=call.__name__, letters=letters, texts=texts):
                self.assertEqual(call(letters, *texts), [wanted])

    def taken(self, letters, *texts):
        for call in CALLS_WITH_P:
            with self.subTest(call=call.__name__, letters=letters, texts=texts):
                self.assertNotIn(call(letters, *texts), ([-1], [-2], [-4], [-6]))

    def test_letters(self):
        for letters in BAD_LETTERS:
            self.refused(-4, letters, "0")
            self.refused(-4, letters, "1", "1")
        for letters in GOOD_LETTERS:
            self.taken(letters, "0")
            self.taken(letters, "1", "1")

    def test_letters_ahead_of_all_else(self):
        for letters in BAD_LETTERS:
            self.refused(-4, letters)
            self.refused(-4, letters, "0", "0", "0", "0", "0")
            self.refused(-4, letters, "")
            self.refused(-4, letters, "x^6")

    def test_no_text(self):
        self.refused(-2, [23])
        self.refused(-2, [0, 1, 2])

    def test_how_many_equations(self):
        self.taken([23], "x", "x")
        self.taken([23], "x", "x", "x", "x")
        self.refused(-2, [23], "x", "x", "x", "x", "x")
        self.refused(-2, [23], "0", "0", "0", "0", "0")
        self.refused(-2, [23], "x", "x", "x", "x", "x", "x")

    def test_too_many_equations_ahead_of_texts(self):
        self.refused(-2, [23], "", "", "", "", "")
        self.refused(-2, [23], "z", "x", "x", "x", "x")

    def test_texts_ahead_of_other_letters(self):
        for other in OTHER_LETTER:
            self.refused(-1, [23, 24], other, "")
            self.refused(-1, [23, 24], "", other)
            self.refused(-1, [23, 24], "x", other, "x", "x^1")
            self.refused(-1, [23, 24], other + " ")

    def test_texts_ahead_of_large_ones(self):
        for large in TOO_LARGE:
            self.refused(-1, [23, 24], large, "x + x")
            self.refused(-1, [23, 24], "x + x", "0", large)

    def test_other_letters(self):
        for other in OTHER_LETTER:
            self.refused(-4, [23, 24], other)
            self.refused(-4, [23, 24], "x", other)
            self.refused(-4, [23, 24], "x", "x", "x", other)
        self.refused(-4, [23], "x + y")
        self.refused(-4, [24], "x + y")
        self.refused(-4, [22, 25], "x")

    def test_other_letters_ahead_of_large_ones(self):
        for large in TOO_LARGE:
            self.refused(-4, [23, 24], large, "z")
            self.refused(-4, [23, 24], "z", large)
            self.refused(-4, [23, 24], large, "0", large, "z")

    def test_large_ones(self):
        for large in TOO_LARGE:
            self.refused(-2, [23, 24], large)
            self.refused(-2, [23, 24], "0", large)
            self.refused(-2, [23, 24], "x", "y", "x", large)
            self.refused(-2, [23, 24, 25], "x", large)

    def test_those_just_fitting(self):
        for text in JUST_FITTING:
            self.taken([23, 24], text)
            self.taken([23, 24], "0", text)
            self.taken([23, 24], text, text)


class WithoutP(unittest.TestCase):
    def refused(self, wanted, letters, *texts, d=5):
        for call in CALLS_WITHOUT_P:
            with self.subTest(call=call.__name__, d=d, letters=letters, texts=texts):
                self.assertEqual(call(letters, *texts, d=d), [wanted])

    def taken(self, letters, *texts, d=5):
        for call in CALLS_WITHOUT_P:
            with self.subTest(call=call.__name__, d=d, letters=letters, texts=texts):
                self.assertGreaterEqual(call(letters, *texts, d=d)[0], 0)

    def test_letters(self):
        for letters in BAD_LETTERS:
            self.refused(-4, letters)
            self.refused(-4, letters, "0")
            self.refused(-4, letters, "1", "1", "1", d=0)
        for letters in GOOD_LETTERS:
            self.taken(letters)
            self.taken(letters, "0")
            self.taken(letters, "1", "1", "1", d=0)

    def test_letters_ahead_of_all_else(self):
        for letters in BAD_LETTERS:
            self.refused(-4, letters, d=6)
            self.refused(-4, letters, "0", "0", "0", "0")
            self.refused(-4, letters, "")
            self.refused(-4, letters, "x^6")
            self.refused(-4, letters, "x^6", "", "z", "10000", "0", d=LAST)

    def test_d(self):
        for d in range(6):
            self.taken([23], d=d)
            self.taken([23], "x", d=d)
        for d in (6, 7, 100, LAST):
            self.refused(-2, [23], d=d)
            self.refused(-2, [23], "x", d=d)
            self.refused(-2, [0, 24, 25], "0", "0", "0", d=d)

    def test_how_many_equations(self):
        self.taken([23])
        self.taken([23], "x")
        self.taken([23], "x", "x")
        self.taken([23], "x", "x", "x")
        self.refused(-2, [23], "x", "x", "x", "x")
        self.refused(-2, [23], "0", "0", "0", "0")
        self.refused(-2, [23], "0", "0", "0", "0", "0")
        self.refused(-2, [23], "x", "x", "x", "x", "x", "x", d=0)

    def test_d_and_too_many_equations_ahead_of_texts(self):
        for wrong in ["", "x + x", "z", "x^6"]:
            self.refused(-2, [23], wrong, d=6)
            self.refused(-2, [23], "x", "x", wrong, d=LAST)
            self.refused(-2, [23], "x", "x", "x", wrong)
            self.refused(-2, [23], wrong, wrong, wrong, wrong, wrong)

    def test_texts(self):
        for wrong in ["", "x + x", "1 + x", "x^1", "-0", "2/4", "x "]:
            self.refused(-1, [23, 24], wrong)
            self.refused(-1, [23, 24], "x", wrong, d=0)
            self.refused(-1, [23, 24], "x", "y", wrong)

    def test_texts_ahead_of_other_letters_and_large_ones(self):
        for other in OTHER_LETTER + TOO_LARGE:
            self.refused(-1, [23, 24], other, "")
            self.refused(-1, [23, 24], "", other)
            self.refused(-1, [23, 24], "x", other, "x^1")
            self.refused(-1, [23, 24], "x + x", "0", other)
            self.refused(-1, [23, 24], other + " ")

    def test_other_letters(self):
        for other in OTHER_LETTER:
            self.refused(-4, [23, 24], other)
            self.refused(-4, [23, 24], "x", other, d=0)
            self.refused(-4, [23, 24], "x", "x", other)
        self.refused(-4, [23], "x + y")
        self.refused(-4, [24], "x + y")
        self.refused(-4, [22, 25], "x")

    def test_other_letters_ahead_of_large_ones(self):
        for large in TOO_LARGE:
            self.refused(-4, [23, 24], large, "z")
            self.refused(-4, [23, 24], "z", large)
            self.refused(-4, [23, 24], large, large, "z")

    def test_large_ones(self):
        for large in TOO_LARGE:
            self.refused(-2, [23, 24], large)
            self.refused(-2, [23, 24], "0", large, d=0)
            self.refused(-2, [23, 24, 25], "x", "y", large)

    def test_those_just_fitting(self):
        for text in JUST_FITTING:
            for d in range(6):
                self.taken([23, 24], text, d=d)
            self.taken([23, 24], "0", text)
            self.taken([23, 24], text, text, text)


class Gone(unittest.TestCase):
    """The letters that without is to be without."""

    GOOD = [([23], [23]), ([23, 24], [23]), ([23, 24], [24]), ([23, 24], [23, 24]), ([0, 12, 25], [0, 25]),
            ([0, 12, 25], [12, 25]), ([0, 12, 25], [12]), ([0, 12, 25], [0, 12, 25])]
    BAD = [([23], []), ([23, 24], []), ([23, 24, 25], []), ([23], [24]), ([23], [0]), ([23, 24], [22]), ([23, 25], [24]),
           ([23, 24], [23, 25]), ([23, 24], [22, 23]), ([23, 24], [23, 24, 25]), ([0, 12, 25], [0, 12, 24]),
           ([23, 24], [24, 23]), ([23, 24], [23, 23]), ([23], [23, 23]), ([0, 12, 25], [25, 12]), ([0, 12, 25], [0, 12, 12]),
           ([0, 12, 25], [0, 25, 12]), ([0, 12, 25], [12, 0, 25]), ([0, 12, 25], [0, 12, 25, 25]),
           ([0, 12, 25], [0, 12, 25, 26]), ([0, 12, 25], [0, 0, 12, 25]), ([23], [26]), ([23], [LAST]),
           ([23], [23, 26]), ([0, 12, 25], [0, 12, 25, 0, 12, 25]), ([0, 12, 25], [0] * 9)]

    def answer(self, letters, gone, *texts, d=5):
        return equations.without(d, len(letters), letters + gone, [to_bytes(text) for text in texts])

    def refused(self, wanted, letters, gone, *texts, d=5):
        with self.subTest(d=d, letters=letters, gone=gone, texts=texts):
            self.assertEqual(self.answer(letters, gone, *texts, d=d), [wanted])

    def test_those_that_are_fine(self):
        for letters, gone in self.GOOD:
            with self.subTest(letters=letters, gone=gone):
                self.assertEqual(self.answer(letters, gone), [0])
                self.assertEqual(self.answer(letters, gone, "3", d=0), [1, 1, 49])

    def test_those_that_are_not(self):
        for letters, gone in self.BAD:
            self.refused(-4, letters, gone)
            self.refused(-4, letters, gone, "0")
            self.refused(-4, letters, gone, "1", "1", "1", d=0)

    def test_ahead_of_all_else(self):
        for letters, gone in self.BAD:
            self.refused(-4, letters, gone, d=6)
            self.refused(-4, letters, gone, "0", d=LAST)
            self.refused(-4, letters, gone, "0", "0", "0", "0")
            self.refused(-4, letters, gone, "")
            self.refused(-4, letters, gone, "0", "x + x")
            self.refused(-4, letters, gone, "10000")
            self.refused(-4, letters, gone, "x^6", "", "p", "1/10000", "0", d=6)

    def test_letters_told_that_are_not_fine(self):
        for letters in BAD_LETTERS:
            for gone in ([], [23], [0], [23, 24], letters[:3], letters[-1:]):
                self.refused(-4, letters, gone)
                self.refused(-4, letters, gone, "", d=6)

    def test_letters_to_be_without_among_letters_that_are_not_fine(self):
        self.refused(-4, [24, 23], [23, 24])
        self.refused(-4, [23, 23], [23])
        self.refused(-4, [0, 1, 2, 3], [1, 2, 3])
        self.refused(-4, [23, 26], [23])
        self.refused(-4, [26], [26])

    def test_n_tells_where_the_letters_told_end(self):
        texts = [to_bytes("x - y"), to_bytes("y - z")]
        letters = [23, 24, 25, 23, 25]
        self.assertEqual(equations.without(1, 3, letters, texts), [0])
        for n in (0, 1, 2, 4, 5):
            self.assertEqual(equations.without(1, n, letters, texts), [-4], n)

    def test_twelve_letters(self):
        for n in range(13):
            self.assertEqual(equations.without(1, n, list(range(12)), []), [-4], n)
            self.assertEqual(equations.without(1, n, [LAST] * 12, []), [-4], n)

    def test_what_the_other_calls_refuse(self):
        for letters, gone in self.GOOD:
            self.refused(-2, letters, gone, d=6)
            self.refused(-2, letters, gone, "", d=LAST)
            self.refused(-2, letters, gone, "0", "0", "", "p")
            self.refused(-1, letters, gone, "p", "10000", "")
            self.refused(-4, letters, gone, "10000", "p")
            self.refused(-2, letters, gone, "0", "10000", d=0)


class Within(unittest.TestCase):
    def refused(self, wanted, d, letters, *texts):
        for call in CALLS_WITHIN:
            with self.subTest(call=call.__name__, d=d, letters=letters, texts=texts):
                self.assertEqual(call(letters, *texts, d=d), [wanted])

    def test_d(self):
        for d in (6, 7, 100, LAST):
            self.refused(-2, d, [23], "x", "x")
            self.refused(-2, d, [23], "0")
        for d in range(1, 6):
            self.assertEqual(call_follows([23], "x", "x", d=d), [1, 1, 49])
            self.assertEqual(call_left([23], "x", "x", d=d), [1, 1, 48])
            self.assertEqual(call_witness([23], "x", "x", d=d), [-5])

    def test_no_text(self):
        for d in (0, 5, 6, LAST):
            self.refused(-2, d, [23])
            self.refused(-4, d, [])

    def test_letters_ahead_of_d(self):
        self.refused(-4, 6, [], "x")
        self.refused(-4, LAST, [24, 23], "x")

    def test_d_ahead_of_texts(self):
        self.refused(-2, 6, [23], "")
        self.refused(-2, 6, [23], "z")
        self.refused(-2, 6, [23], "x", "x + x")

    def test_p_above_d(self):
        for d in range(5):
            p = f"x^{d + 1}" if d else "x"
            self.refused(-6, d, [23], p)
            self.refused(-6, d, [23], p, "1")
            self.refused(-6, d, [23, 24], p, "x", "y")
            for call in CALLS_WITHIN:
                self.assertNotEqual(call([23], p, "1", d=d + 1), [-6])
        self.refused(-6, 1, [23, 24], "x*y - 2", "x + y")
        self.refused(-6, 0, [23, 24, 25], "x + y + z", "x + y + z")

    def test_only_ps_degree_counts(self):
        self.assertEqual(call_follows([23], "0", "x^5", d=0), [1, 1, 48])
        self.assertEqual(call_follows([23], "1", "x^5", d=0), [0])
        self.assertEqual(call_left([23], "0", "x^5", d=0), [1, 1, 48])
        self.assertEqual(call_left([23], "1", "x^5", d=0), [1, 1, 49])
        self.assertEqual(call_witness([23], "0", "x^5", d=0), [-5])
        self.assertEqual(call_witness([23], "1", "x^5", d=0), [1, 1, 49, 1, 49])

    def test_all_else_ahead_of_p_above_d(self):
        self.refused(-4, 0, [26], "x")
        self.refused(-2, 0, [23], "x", "x", "x", "x", "x")
        self.refused(-1, 0, [23], "x", "")
        self.refused(-1, 0, [23], "x ")
        self.refused(-4, 0, [23], "x", "y")
        self.refused(-4, 0, [23], "y")
        self.refused(-2, 0, [23], "x", "x^6")
        self.refused(-2, 0, [23], "x^6")
        self.refused(-2, 0, [23], "x - 10000")


class Witness(unittest.TestCase):
    def refused(self, wanted, d, letters, *texts):
        with self.subTest(d=d, letters=letters, texts=texts):
            self.assertEqual(call_witness(letters, *texts, d=d), [wanted])

    def test_p_that_follows(self):
        self.refused(-5, 0, [23], "0")
        self.refused(-5, 5, [23], "x^5", "x")
        self.refused(-5, 1, [23, 24], "x", "x - y", "0", "y")

    def test_all_else_ahead_of_p_that_follows(self):
        self.refused(-4, 5, [26], "0")
        self.refused(-4, 5, [], "0", "0")
        self.refused(-2, 6, [23], "0")
        self.refused(-2, 5, [23], "x", "x", "x", "x", "x")
        self.refused(-1, 5, [23], "0", "x", "x ")
        self.refused(-1, 5, [23], "0 ")
        self.refused(-4, 5, [23], "0", "y")
        self.refused(-4, 5, [23], "y", "y")
        self.refused(-2, 5, [23], "0", "x^6")
        self.refused(-2, 5, [23], "x^6", "1")
        self.refused(-2, 5, [23], "10000", "1")

    def test_p_above_d_ahead_of_p_that_follows(self):
        self.refused(-6, 0, [23], "x", "1")
        self.refused(-6, 1, [23], "x^2", "x")
        self.refused(-6, 4, [23], "x^5", "x^5")


class When(unittest.TestCase):
    def refused(self, wanted, letters, *texts):
        with self.subTest(letters=letters, texts=texts):
            self.assertEqual(call_when(letters, *texts), [wanted])

    def test_not_within_5(self):
        self.refused(-5, [23], "x")
        self.refused(-5, [23], "x^5", "x - 1")
        self.refused(-5, [23, 24], "1", "x", "y", "0")

    def test_all_else_ahead_of_not_within_5(self):
        self.refused(-4, [26], "x", "y")
        self.refused(-2, [23], "x", "x^2", "x^2", "x^2", "x^2")
        self.refused(-1, [23], "x", "x^2 ")
        self.refused(-4, [23], "x", "y")
        self.refused(-2, [23], "x", "x^6")
        self.refused(-2, [23], "x^6", "x^2")
        self.refused(-2, [23], "10000", "x^2")


if __name__ == "__main__":
    unittest.main()
