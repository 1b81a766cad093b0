"""The calls: what follows from equations and how, what's left of something and its witness, and the
basis of all that follows, or of what follows without some letters.

The letters are told by their numbers, the polynomials by their texts' bytes: first p's, where one is
wanted, then each equation's. What is answered is one list: a number, then each text as how many
bytes it has and these. A refusal is a number below 0, alone.
"""

from equationfollow.consequences import basis_without
from equationfollow.consequences import what_is_left
from equationfollow.consequences import witness_against
from equationfollow.following import how_it_follows
from equationfollow.products import degree_of
from equationfollow.products import product_of
from equationfollow.reading import read_polynomial
from equationfollow.refusals import BAD_LETTERS
from equationfollow.refusals import LARGEST_DEGREE
from equationfollow.refusals import are_some_of
from equationfollow.refusals import first_refusal
from equationfollow.writing import written

NOT_WITHIN_LARGEST = -5
P_FOLLOWS = -5
ABOVE_D = -6


# Of all letters from a to z, those that are told.
def in_letters(polynomial, letters):
    terms = []
    for term in polynomial:
        product = [term[0][0]] + [term[0][1 + letter] for letter in letters]
        terms.append((tuple(product), term[1], term[2]))
    return terms


def answer_of(number, polynomials, letters):
    answer = [number]
    for polynomial in polynomials:
        text = written(polynomial, letters)
        answer.append(len(text))
        answer.extend(text)
    return answer


# The one told first of those that all calls with d and p have in common, or 0.
def refusal_within(d, letters, polynomials):
    refusal = first_refusal(d, letters, 1, polynomials)
    if refusal == 0 and degree_of(polynomials[0]) > d:
        return ABOVE_D
    return refusal


def follows(d, letters, texts):
    polynomials = [read_polynomial(text) for text in texts]
    refusal = refusal_within(d, letters, polynomials)
    if refusal < 0:
        return [refusal]
    told = [in_letters(polynomial, letters) for polynomial in polynomials]
    how = how_it_follows(d, len(letters), told[0], told[1:])
    if how is None:
        return [0]
    return answer_of(1, how, letters)


def when(letters, texts):
    polynomials = [read_polynomial(text) for text in texts]
    refusal = first_refusal(LARGEST_DEGREE, letters, 1, polynomials)
    if refusal < 0:
        return [refusal]
    told = [in_letters(polynomial, letters) for polynomial in polynomials]
    # What follows within d has no degree above d.
    for d in range(degree_of(told[0]), LARGEST_DEGREE + 1):
        if how_it_follows(d, len(letters), told[0], told[1:]) is not None:
            return [d]
    return [NOT_WITHIN_LARGEST]


def left(d, letters, texts):
    polynomials = [read_polynomial(text) for text in texts]
    refusal = refusal_within(d, letters, polynomials)
    if refusal < 0:
        return [refusal]
    told = [in_letters(polynomial, letters) for polynomial in polynomials]
    rest = what_is_left(d, len(letters), told[0], told[1:])
    return answer_of(1, [rest], letters)


# The product and the number, each as a polynomial: so the one without letters is "1".
def as_two(term):
    without_letters = product_of([0 for often in term[0][1:]])
    return [[(term[0], 1, 1)], [(without_letters, term[1], term[2])]]


def witness(d, letters, texts):
    polynomials = [read_polynomial(text) for text in texts]
    refusal = refusal_within(d, letters, polynomials)
    if refusal < 0:
        return [refusal]
    told = [in_letters(polynomial, letters) for polynomial in polynomials]
    terms = witness_against(d, len(letters), told[0], told[1:])
    if terms == []:
        return [P_FOLLOWS]
    parts = []
    for term in terms:
        parts.extend(as_two(term))
    return answer_of(len(terms), parts, letters)


# The letters that it's to be without are among those told, or there are none.
def basis_answer(d, letters, gone, texts):
    equations = [read_polynomial(text) for text in texts]
    refusal = first_refusal(d, letters, 0, equations)
    if refusal < 0:
        return [refusal]
    told = [in_letters(equation, letters) for equation in equations]
    places = [letters.index(letter) for letter in gone]
    found = basis_without(d, len(letters), told, places)
    return answer_of(len(found), found, letters)


def basis(d, letters, texts):
    return basis_answer(d, letters, [], texts)


# The first n letters are those told.
def without(d, n, letters, texts):
    told = letters[:n]
    gone = letters[n:]
    if not are_some_of(gone, told):
        return [BAD_LETTERS]
    return basis_answer(d, told, gone, texts)
