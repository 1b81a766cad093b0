"""What whole numbers have in common, and fractions of them."""


# The greatest that goes into both: never below 0, and 0 of two zeros alone.
def common_divisor(one, other):
    larger = abs(one)
    smaller = abs(other)
    while smaller > 0:
        rest = larger % smaller
        larger = smaller
        smaller = rest
    return larger


# Both are above 0.
def common_multiple(one, other):
    return one // common_divisor(one, other) * other


# The bottom isn't 0; of what is given back it is above 0, so the sign stands at the top.
def lowest_terms(top, bottom):
    divisor = common_divisor(top, bottom)
    if bottom < 0:
        divisor = -divisor
    return (top // divisor, bottom // divisor)
