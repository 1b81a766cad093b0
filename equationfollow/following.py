"""Whether a polynomial follows from equations within a degree, and how."""

from equationfollow.products import degree_of
from equationfollow.products import products_within
from equationfollow.products import times
from equationfollow.rows import reduced
from equationfollow.whole import common_multiple
from equationfollow.whole import lowest_terms


# The least whole number that makes all of the polynomial's numbers whole.
def scale_of(polynomial):
    scale = 1
    for term in polynomial:
        scale = common_multiple(scale, term[2])
    return scale


# The product times the polynomial times its scale: a whole number by each product.
def scaled_multiple(product, polynomial):
    scale = scale_of(polynomial)
    numbers = {}
    for term in polynomial:
        numbers[times(product, term[0])] = term[1] * (scale // term[2])
    return numbers


# In order: the equation's number, and the product that it is to be taken times.
def multiples_within(d, letter_count, equations):
    multiples = []
    for index, equation in enumerate(equations):
        if equation != []:
            for product in products_within(d - degree_of(equation), letter_count):
                multiples.append((index, product))
    return multiples


# A row for each product, a column for each multiple, and p's behind them. The higher products come
# first: few multiples have one, which keeps the numbers small while rows are reduced.
def rows_of(d, letter_count, p, equations, multiples):
    columns = [scaled_multiple(product, equations[index]) for index, product in multiples]
    products = products_within(d, letter_count)
    columns.append(scaled_multiple(products[0], p))
    rows = []
    for product in reversed(products):
        rows.append([column.get(product, 0) for column in columns])
    return rows


# A polynomial for each equation, or None if p doesn't follow. The places of the reduced rows are
# those of the needed multiples, and p's too if it isn't a sum of these.
def how_it_follows(d, letter_count, p, equations):
    multiples = multiples_within(d, letter_count, equations)
    found = reduced(rows_of(d, letter_count, p, equations, multiples))
    if len(multiples) in found:
        return None
    answers = [[] for equation in equations]
    for place in sorted(found, reverse=True):
        row = found[place]
        if row[-1] != 0:
            index = multiples[place][0]
            top = row[-1] * scale_of(equations[index])
            number = lowest_terms(top, row[place] * scale_of(p))
            answers[index].append((multiples[place][1], number[0], number[1]))
    return answers
