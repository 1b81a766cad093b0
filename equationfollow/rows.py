"""Rows of whole numbers, each standing for all that it is times a number other than 0."""

from equationfollow.whole import common_divisor


# Without what goes into all its numbers: they'd grow beyond all need.
def cleared(row):
    divisor = 0
    for number in row:
        divisor = common_divisor(divisor, number)
        if divisor == 1:
            return row
    if divisor == 0:
        return row
    return [number // divisor for number in row]


# The row less as much of the other one as makes its number there 0. The other's isn't 0 there.
def with_zero_at(place, row, other):
    if row[place] == 0:
        return row
    keep = other[place]
    less = row[place]
    return cleared([keep * first - less * second for first, second in zip(row, other)])


# -1 if there's none.
def first_place(row):
    for place, number in enumerate(row):
        if number != 0:
            return place
    return -1


# Rows with the same sums as those given, by the first place of each that isn't 0. All others are 0
# at this place. A column is at one of these places if it isn't a sum of columns before it, each
# times a number.
def reduced(rows):
    found = {}
    for row in rows:
        rest = cleared(row)
        for place, other in found.items():
            rest = with_zero_at(place, rest, other)
        first = first_place(rest)
        if first >= 0:
            longer = {first: rest}
            for place, other in found.items():
                longer[place] = with_zero_at(first, other, rest)
            found = longer
    return found
