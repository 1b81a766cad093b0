"""Products of letters, and the polynomials that are made of them.

A product is a tuple: its degree, then how often each letter is there. So the higher of two
products is the greater one of two tuples, and one times another is their sum, place by place.

A polynomial is a list of terms, the higher product first; a term is a product, then the top and
the bottom of its number, in lowest terms, with the sign at the top. 0 is the empty list.
"""


def product_of(counts):
    return (sum(counts),) + tuple(counts)


def times(one, other):
    return tuple([first + second for first, second in zip(one, other)])


# All products of that many letters, of this degree at most, the lower first; none if it is below 0.
def products_within(degree, letter_count):
    found = [[]]
    for letter in range(letter_count):
        longer = []
        for counts in found:
            for often in range(degree - sum(counts) + 1):
                longer.append(counts + [often])
        found = longer
    return sorted([product_of(counts) for counts in found])


def degree_of(polynomial):
    if polynomial == []:
        return 0
    highest = polynomial[0][0]
    return highest[0]
