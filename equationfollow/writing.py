"""From a polynomial to its text's bytes."""

ALPHABET = "abcdefghijklmnopqrstuvwxyz"


def product_text(product, letters):
    powers = []
    for letter, often in zip(letters, product[1:]):
        name = ALPHABET[letter]
        if often == 1:
            powers.append(name)
        if often > 1:
            powers.append(f"{name}^{often}")
    return "*".join(powers)


# A number's sign isn't written here. Of what is answered within 5 no whole number has 3000 digits:
# so few are written by any Python.
def number_text(top, bottom):
    first = str(abs(top))
    if bottom == 1:
        return first
    return f"{first}/{bottom}"


def term_text(term, letters):
    number = number_text(term[1], term[2])
    product = product_text(term[0], letters)
    if product == "":
        return number
    if number == "1":
        return product
    return f"{number}*{product}"


def polynomial_text(polynomial, letters):
    if polynomial == []:
        return "0"
    text = ""
    for place, term in enumerate(polynomial):
        sign = "-" if term[1] < 0 else ""
        if place > 0:
            sign = " - " if term[1] < 0 else " + "
        text = text + sign + term_text(term, letters)
    return text


def written(polynomial, letters):
    return [ord(sign) for sign in polynomial_text(polynomial, letters)]
