"""What the tests share: calls by plain texts, and the document's words told again in another way.

The second way is slow and plain: fractions, dicts, and multiples taken one by one in order.
"""

import itertools
import re
import unittest
from fractions import Fraction

from equationfollow import equations

# Equations with long numbers: what is made of them has hundreds of digits.
LARGE_FIRST = ("1111/9973*x^2 - 2719/9967*x*y + 3517/9949*x*z + 4373/9941*y^2 - 5519/9931*y*z + 6791/9929*z^2"
               " + 7919/9923*x - 8563/9907*y + 9181/9901*z - 9467/9887")
LARGE_SECOND = ("9871/9013*x^2 + 8887/9011*x*y - 7877/9007*x*z + 6869/9001*y^2 + 5857/8999*y*z - 4831/8971*z^2"
                " - 3821/8969*x + 2803/8963*y - 1801/8951*z + 1009/8941")
LARGE_THIRD = "8677/7001"
LARGE_TWELVE = ("9857/8863*x^3 - 8867/8861*x^2*y + 7867/8849*x*y*z + 6857/8839*y^3 - 5851/8837*y^2*z + 4817/8831*z^3"
                " + 3803/8821*x^2 - 2801/8819*x*y + 1801/8807*y*z - 1201/8803*x + 1103/8783*z - 1051/8779")


def letter_numbers(names):
    return [ord(name) - ord("a") for name in names]


def to_bytes(text):
    return list(text.encode("latin-1"))


def texts_of(answer):
    """The texts behind an answer's number; fails if the counts don't fit."""
    texts = []
    place = 1
    while place < len(answer):
        count = answer[place]
        piece = answer[place + 1:place + 1 + count]
        assert len(piece) == count, answer
        texts.append(bytes(piece).decode("ascii"))
        place += 1 + count
    return texts


def follows(d, names, p, *told):
    """The number alone, or the list of texts if that's 1."""
    answer = equations.follows(d, letter_numbers(names), [to_bytes(text) for text in (p,) + told])
    if answer[0] == 1:
        return texts_of(answer)
    assert len(answer) == 1, answer
    return answer[0]


def when(names, p, *told):
    answer = equations.when(letter_numbers(names), [to_bytes(text) for text in (p,) + told])
    assert len(answer) == 1, answer
    return answer[0]


def left(d, names, p, *told):
    """The one text behind the number 1, or the number alone."""
    answer = equations.left(d, letter_numbers(names), [to_bytes(text) for text in (p,) + told])
    if answer[0] == 1:
        texts = texts_of(answer)
        assert len(texts) == 1, answer
        return texts[0]
    assert len(answer) == 1, answer
    return answer[0]


def witness(d, names, p, *told):
    """Pairs of texts, a product and its number, or the number alone that is a refusal."""
    answer = equations.witness(d, letter_numbers(names), [to_bytes(text) for text in (p,) + told])
    if answer[0] < 0:
        assert len(answer) == 1, answer
        return answer[0]
    texts = texts_of(answer)
    assert len(texts) == 2 * answer[0], answer
    return list(zip(texts[::2], texts[1::2]))


def counted(answer):
    """As many texts as the number tells, or the number alone that is a refusal."""
    if answer[0] < 0:
        assert len(answer) == 1, answer
        return answer[0]
    texts = texts_of(answer)
    assert len(texts) == answer[0], answer
    return texts


def basis(d, names, *told):
    return counted(equations.basis(d, letter_numbers(names), [to_bytes(text) for text in told]))


def without(d, names, gone, *told):
    letters = letter_numbers(names) + letter_numbers(gone)
    return counted(equations.without(d, len(names), letters, [to_bytes(text) for text in told]))


def order(product):
    return (sum(product), product)


def highest_of(polynomial):
    return max(polynomial, key=order)


def products_within(d, count):
    found = [product for product in itertools.product(range(d + 1), repeat=count) if sum(product) <= d]
    return sorted(found, key=order)


def write(polynomial, names):
    """The text of a dict from products (how often each of the names is there) to fractions."""
    text = ""
    for product in sorted(polynomial, key=order, reverse=True):
        number = polynomial[product]
        powers = [name + ("^%d" % often if often > 1 else "") for name, often in zip(names, product) if often]
        factors = powers if powers and abs(number) == 1 else [str(abs(number))] + powers
        minus = number < 0
        text += (" - " if minus else " + ") if text else ("-" if minus else "")
        text += "*".join(factors)
    return text or "0"


TERM = re.compile(r"([+-]?)([0-9/a-z^*]+)", re.ASCII)
FACTOR = re.compile(r"([0-9]+(?:/[0-9]+)?)|([a-z])(?:\^([0-9]+))?", re.ASCII)
ALL_NAMES = "abcdefghijklmnopqrstuvwxyz"


def read_loosely(text):
    """A polynomial of a to z from anything that looks like a sum, or None."""
    polynomial = {}
    packed = text.replace(" ", "")
    if "".join(match.group(0) for match in TERM.finditer(packed)) != packed or not packed:
        return None
    for match in TERM.finditer(packed):
        number = Fraction(-1 if match.group(1) == "-" else 1)
        counts = [0] * 26
        for factor in match.group(2).split("*"):
            parts = FACTOR.fullmatch(factor)
            if parts is None:
                return None
            if parts.group(1):
                top, slash, bottom = parts.group(1).partition("/")
                if slash and int(bottom) == 0:
                    return None
                number *= Fraction(int(top), int(bottom or 1))
            else:
                counts[ALL_NAMES.index(parts.group(2))] += int(parts.group(3) or 1)
        product = tuple(counts)
        polynomial[product] = polynomial.get(product, 0) + number
    return {product: number for product, number in polynomial.items() if number}


def is_polynomial_text(text):
    """Each polynomial has one text: what is read, however loosely, has to be written just so."""
    polynomial = read_loosely(text)
    return polynomial is not None and write(polynomial, ALL_NAMES) == text


def read(text, names):
    polynomial = read_loosely(text)
    places = letter_numbers(names)
    return {tuple(product[place] for place in places): number for product, number in polynomial.items()}


def plus(one, other, number=1):
    total = dict(one)
    for product, value in other.items():
        total[product] = total.get(product, 0) + number * value
        if total[product] == 0:
            del total[product]
    return total


def times(one, other):
    total = {}
    for product, number in one.items():
        shifted = {tuple(map(sum, zip(product, second))): value for second, value in other.items()}
        total = plus(total, shifted, number)
    return total


def degree(polynomial):
    return max([sum(product) for product in polynomial], default=0)


def multiples(d, count, told):
    for index, equation in enumerate(told):
        if equation:
            for product in products_within(d - degree(equation), count):
                yield (index, product), times({product: Fraction(1)}, equation)


def remainder(polynomial, kept):
    """What's left, and how much of each needed multiple was taken."""
    taken = {}
    products = sorted(kept, key=order, reverse=True)
    for highest in products:
        if highest in polynomial:
            vector, how = kept[highest]
            number = polynomial[highest] / vector[highest]
            polynomial = plus(polynomial, vector, -number)
            taken = plus(taken, how, number)
    return polynomial, taken


def kept_multiples(d, names, told):
    """By their highest products, what the needed multiples leave of one another, and how each is made of them."""
    kept = {}
    for label, multiple in multiples(d, len(names), told):
        left, taken = remainder(multiple, kept)
        if left:
            kept[highest_of(left)] = (left, plus({label: Fraction(1)}, taken, -1))
    return kept


def follows_again(d, names, p, *told):
    """How p follows, as the document's words tell it, or 0."""
    told = [read(text, names) for text in told]
    left, taken = remainder(read(p, names), kept_multiples(d, names, told))
    if left:
        return 0
    answers = [{} for equation in told]
    for (index, product), number in taken.items():
        answers[index][product] = number
    return [write(answer, names) for answer in answers]


def when_again(names, p, *told):
    """The least d within which p follows, or -5."""
    for d in range(6):
        if follows_again(d, names, p, *told) != 0:
            return d
    return -5


def left_again(d, names, p, *told):
    """What's left of p, as the document's words tell it."""
    told = [read(text, names) for text in told]
    rest, taken = remainder(read(p, names), kept_multiples(d, names, told))
    return write(rest, names)


def witness_again(d, names, p, *told):
    """The witness against p, product by product as the document's words tell it, or -5."""
    kept = kept_multiples(d, names, [read(text, names) for text in told])
    rest, taken = remainder(read(p, names), kept)
    if not rest:
        return -5
    highest = highest_of(rest)
    found = []
    for product in reversed(products_within(d, len(names))):
        rest_of_product, taken = remainder({product: Fraction(1)}, kept)
        if highest in rest_of_product:
            found.append((write({product: Fraction(1)}, names), str(rest_of_product[highest])))
    return found


def basis_of(kept):
    """Polynomials by their highest products, each less as much of the others as can be, with 1 at its highest product."""
    found = []
    for highest in sorted(kept, key=order, reverse=True):
        others = {product: vector for product, vector in kept.items() if product != highest}
        rest, taken = remainder(kept[highest][0], others)
        found.append({product: number / rest[highest] for product, number in rest.items()})
    return found


def basis_again(d, names, *told):
    """The consequences' basis, as the document's words tell it."""
    kept = kept_multiples(d, names, [read(text, names) for text in told])
    return [write(polynomial, names) for polynomial in basis_of(kept)]


def products_without(d, names, gone):
    """Products of the names in which those that are gone aren't, the lower first."""
    places = [names.index(name) for name in gone]
    return [product for product in products_within(d, len(names)) if not any(product[place] for place in places)]


def without_again(d, names, gone, *told):
    """Each product is the highest one of something without what's gone, if what's left of it is made of what's left
    of lower ones: then it, less these."""
    kept = kept_multiples(d, names, [read(text, names) for text in told])
    found = []
    free = {}
    for product in products_without(d, names, gone):
        rest, taken = remainder({product: Fraction(1)}, kept)
        rest, lower = remainder(rest, free)
        polynomial = plus({product: Fraction(1)}, lower, -1)
        if rest:
            free[highest_of(rest)] = (rest, polynomial)
        else:
            found.append(polynomial)
    return [write(polynomial, names) for polynomial in reversed(found)]


def rest_by(found, polynomial):
    """What's left of a polynomial, less what these are times numbers."""
    rest, taken = remainder(polynomial, {highest_of(one): (one, {}) for one in found})
    return rest


def fits(polynomial):
    """Whether a call takes it, if its degree and letters are fine."""
    numbers = polynomial.values()
    return len(polynomial) <= 12 and all(max(abs(number.numerator), number.denominator) <= 9999 for number in numbers)


def value_by(pairs, names, polynomial):
    """The polynomial's numbers times those that the witness has for its products, added up."""
    numbers = {}
    for product, number in pairs:
        ((counts, one),) = read(product, names).items()
        numbers[counts] = Fraction(number)
    return sum([number * numbers.get(product, 0) for product, number in polynomial.items()])


def total_of(names, factors, told):
    """The factors times the equations, added up, as a text."""
    total = {}
    for factor, equation in zip(factors, told, strict=True):
        total = plus(total, times(read(factor, names), read(equation, names)))
    return write(total, names)


def digits_of(texts):
    """How many digits the longest whole number has."""
    return max(len(number) for text in texts for number in re.findall("[0-9]+", text))


def random_polynomial(rng, names, d, most, largest, bottom):
    """Products of degree d at most, whole numbers up to largest at the top and up to bottom below."""
    products = products_within(d, len(names))
    chosen = rng.sample(products, min(len(products), rng.randint(1, most)))
    numbers = [Fraction(rng.randint(-largest, largest), rng.randint(1, bottom)) for product in chosen]
    return {product: number for product, number in zip(chosen, numbers) if number}


class BasisCase(unittest.TestCase):
    """What a basis has to be, whichever it is."""

    def check_form(self, polynomials):
        highest = [highest_of(polynomial) for polynomial in polynomials]
        places = [order(product) for product in highest]
        self.assertEqual(places, sorted(set(places), reverse=True))
        for index, polynomial in enumerate(polynomials):
            self.assertEqual(polynomial[highest[index]], 1)
            for other in highest[:index] + highest[index + 1:]:
                self.assertNotIn(other, polynomial)

    def check_follows(self, d, names, polynomials, told):
        kept = kept_multiples(d, names, [read(text, names) for text in told])
        for polynomial in polynomials:
            rest, taken = remainder(polynomial, kept)
            self.assertEqual(rest, {})
            # One with long numbers can't be handed in.
            if fits(polynomial):
                self.assertIsInstance(follows(d, names, write(polynomial, names), *told), list)
