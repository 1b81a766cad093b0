"""From a text's bytes to a polynomial of the letters a to z.

Whatever isn't written as it has to be is read as None.
"""

from equationfollow.products import product_of
from equationfollow.whole import common_divisor

BLANK = 32
STAR = 42
PLUS = 43
MINUS = 45
SLASH = 47
ZERO = 48
NINE = 57
CARET = 94
SMALL_A = 97
SMALL_Z = 122
LETTER_COUNT = 26


def pieces_between(text, separator):
    pieces = [[]]
    for byte in text:
        if byte == separator:
            pieces.append([])
        else:
            pieces[-1].append(byte)
    return pieces


def is_digit(byte):
    return ZERO <= byte <= NINE


def read_whole(text):
    if text == [] or (text[0] == ZERO and len(text) > 1):
        return None
    value = 0
    for byte in text:
        if not is_digit(byte):
            return None
        value = value * 10 + byte - ZERO
    return value


# A number as its top and its bottom.
def read_number(text):
    parts = [read_whole(piece) for piece in pieces_between(text, SLASH)]
    if None in parts or len(parts) > 2:
        return None
    if len(parts) == 1:
        return (parts[0], 1)
    if parts[1] <= 1 or common_divisor(parts[0], parts[1]) > 1:
        return None
    return (parts[0], parts[1])


# One letter, by its number, and how often it is there.
def read_power(text):
    parts = pieces_between(text, CARET)
    if len(parts) > 2 or len(parts[0]) != 1:
        return None
    byte = parts[0][0]
    if byte < SMALL_A or byte > SMALL_Z:
        return None
    if len(parts) == 1:
        return (byte - SMALL_A, 1)
    often = read_whole(parts[1])
    if often is None or often <= 1:
        return None
    return (byte - SMALL_A, often)


def read_product(factors):
    counts = [0] * LETTER_COUNT
    before = -1
    for factor in factors:
        power = read_power(factor)
        if power is None or power[0] <= before:
            return None
        before = power[0]
        counts[before] = power[1]
    return product_of(counts)


# A term without its sign.
def read_term(text):
    factors = pieces_between(text, STAR)
    number = (1, 1)
    if factors[0] != [] and is_digit(factors[0][0]):
        number = read_number(factors[0])
        factors = factors[1:]
        if number is None or number[0] == 0:
            return None
        if number == (1, 1) and factors != []:
            return None
    product = read_product(factors)
    if product is None:
        return None
    return (product, number[0], number[1])


# What stands between blanks, so that there's a sign ahead of the first term as of all others.
def signed_words(text):
    words = pieces_between(text, BLANK)
    first = words[0]
    if first != [] and first[0] == MINUS:
        return [[MINUS], first[1:]] + words[1:]
    return [[PLUS]] + words


def read_polynomial(text):
    if text == [ZERO]:
        return []
    words = signed_words(text)
    if len(words) % 2 == 1:
        return None
    terms = []
    for place in range(0, len(words), 2):
        sign = words[place]
        term = read_term(words[place + 1])
        if term is None or (sign != [PLUS] and sign != [MINUS]):
            return None
        if terms != [] and terms[-1][0] <= term[0]:
            return None
        top = -term[1] if sign == [MINUS] else term[1]
        terms.append((term[0], top, term[2]))
    return terms
