"""The consequences' basis within a degree, what it leaves of a polynomial, the witness, and the basis
without some letters.

The basis is kept as rows of whole numbers, each a polynomial of it times some number other than 0.
A row has a column for each product, the higher first: so its first place that isn't 0 is its
highest product's.
"""

from equationfollow.following import multiples_within
from equationfollow.following import scale_of
from equationfollow.following import scaled_multiple
from equationfollow.products import products_within
from equationfollow.rows import reduced
from equationfollow.rows import with_zero_at
from equationfollow.whole import lowest_terms


# The products of a row's columns.
def columns_within(d, letter_count):
    return list(reversed(products_within(d, letter_count)))


def row_of(product, polynomial, columns):
    numbers = scaled_multiple(product, polynomial)
    return [numbers.get(column, 0) for column in columns]


# Rows by the place of each one's first product: its highest one, if the higher columns come first.
def rows_within(d, letter_count, equations, columns):
    rows = []
    for index, product in multiples_within(d, letter_count, equations):
        rows.append(row_of(product, equations[index], columns))
    return reduced(rows)


# The polynomial that the row is times the divisor.
def divided(row, divisor, columns):
    terms = []
    for product, top in zip(columns, row):
        if top != 0:
            number = lowest_terms(top, divisor)
            terms.append((product, number[0], number[1]))
    return terms


def has_one_of(product, places):
    return any([product[1 + place] > 0 for place in places])


# Polynomials, the higher highest product first, with the number 1 there. The places tell which of the
# letters these are to be without; with no place it's the whole basis.
def basis_without(d, letter_count, equations, places):
    products = columns_within(d, letter_count)
    gone = [product for product in products if has_one_of(product, places)]
    # What is to be gone comes first: then all that follows without it is made of the rows behind it.
    columns = gone + [product for product in products if not has_one_of(product, places)]
    rows = rows_within(d, letter_count, equations, columns)
    found = []
    for place in sorted(rows):
        if place >= len(gone):
            found.append(divided(rows[place], rows[place][place], columns))
    return found


# Behind p's numbers stands what they were taken times. The basis has 0 there, so this one is taken
# times whatever the others are, and tells in the end what they all are to be divided by.
def left_by(basis, columns, p):
    rest = row_of(columns[-1], p, columns) + [scale_of(p)]
    for place, row in basis.items():
        rest = with_zero_at(place, rest, row + [0])
    return divided(rest[:-1], rest[-1], columns)


# A polynomial. p's degree isn't above d.
def what_is_left(d, letter_count, p, equations):
    columns = columns_within(d, letter_count)
    basis = rows_within(d, letter_count, equations, columns)
    return left_by(basis, columns, p)


# By each product, the higher first, the number that the column's product has in what's left of it,
# where that isn't 0. Of a highest product of the basis its polynomial's other terms are left, with
# the other sign; any other product is left as it is. The column's isn't a highest one.
def numbers_by(basis, columns, column):
    terms = []
    for place, product in enumerate(columns):
        if place == column:
            terms.append((product, 1, 1))
        if place in basis and basis[place][column] != 0:
            number = lowest_terms(-basis[place][column], basis[place][place])
            terms.append((product, number[0], number[1]))
    return terms


# Terms as those of a polynomial; none if p follows.
def witness_against(d, letter_count, p, equations):
    columns = columns_within(d, letter_count)
    basis = rows_within(d, letter_count, equations, columns)
    rest = left_by(basis, columns, p)
    if rest == []:
        return []
    return numbers_by(basis, columns, columns.index(rest[0][0]))
