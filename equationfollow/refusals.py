"""What is refused, whatever is asked: the first of the promises."""

from equationfollow.products import degree_of

BAD_TEXT = -1
TOO_MUCH = -2
BAD_LETTERS = -4

LARGEST_DEGREE = 5
MOST_EQUATIONS = 3
MOST_LETTERS = 3
LAST_LETTER = 25
MOST_PRODUCTS = 12
LARGEST_WHOLE = 9999


def are_letters(letters):
    if len(letters) < 1 or len(letters) > MOST_LETTERS:
        return False
    before = -1
    for letter in letters:
        if letter <= before or letter > LAST_LETTER:
            return False
        before = letter
    return True


# Of the letters that something is to be without.
def are_some_of(gone, letters):
    return are_letters(gone) and all([letter in letters for letter in gone])


def has_other_letter(polynomial, letters):
    for term in polynomial:
        for letter, often in enumerate(term[0][1:]):
            if often > 0 and letter not in letters:
                return True
    return False


# No number is written with zeros before, so more than four digits are those of a number above 9999.
def is_too_large(polynomial):
    if degree_of(polynomial) > LARGEST_DEGREE or len(polynomial) > MOST_PRODUCTS:
        return True
    for term in polynomial:
        if abs(term[1]) > LARGEST_WHOLE or term[2] > LARGEST_WHOLE:
            return True
    return False


# The one told first, or 0. The polynomials are read from their texts: as many as stand ahead of the
# equations (1 if p is wanted, 0 if not), then the equations.
def first_refusal(d, letters, ahead, polynomials):
    if not are_letters(letters):
        return BAD_LETTERS
    if d > LARGEST_DEGREE or len(polynomials) < ahead or len(polynomials) > ahead + MOST_EQUATIONS:
        return TOO_MUCH
    if None in polynomials:
        return BAD_TEXT
    if any([has_other_letter(polynomial, letters) for polynomial in polynomials]):
        return BAD_LETTERS
    if any([is_too_large(polynomial) for polynomial in polynomials]):
        return TOO_MUCH
    return 0
