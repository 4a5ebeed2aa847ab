"""Texts of polynomials and numbers, as lists of bytes.

A term is a tuple (power, top, bottom): the number top / bottom, with bottom above 0, times x to that power.
A polynomial's terms stand with the higher powers first, none with top 0, each in lowest terms.
"""

from slopesteps.wholes import greatest_divisor

BLANK = 32
STAR = 42
PLUS = 43
MINUS = 45
SLASH = 47
DIGIT_ZERO = 48
DIGIT_NINE = 57
CARET = 94
LETTER_X = 120


def read_polynomial(text):
    """Give the terms of a polynomial's text, or None if it isn't such a text."""
    terms = [read_term(sign, piece) for sign, piece in split_at_signs(text)]
    if None in terms or not powers_fall(terms):
        return None
    kept = [lowest_term(term) for term in terms if term[1] != 0]
    # A polynomial has one text alone, so a text that its terms aren't written as is none.
    if write_polynomial(kept) != text:
        return None
    return kept


def read_number(text):
    """Give the terms of a number's text, at most one and without x, or None if it isn't such a text."""
    # A number is written as the polynomial that it is, and nothing but an x is one's and not the other's.
    if LETTER_X in text:
        return None
    return read_polynomial(text)


def split_at_signs(text):
    """Give the pieces between signs, without blanks, each as a tuple (1 or -1, bytes)."""
    pieces = []
    sign = 1
    piece = []
    for byte in text:
        if byte == PLUS or byte == MINUS:
            pieces.append((sign, piece))
            sign = 1 if byte == PLUS else -1
            piece = []
        elif byte != BLANK:
            piece.append(byte)
    pieces.append((sign, piece))
    # Ahead of a sign at the very beginning there's no term.
    if pieces[0][1] == []:
        return pieces[1:]
    return pieces


def read_term(sign, piece):
    """Give the term of a piece without blanks and signs, or None if it isn't one."""
    fraction = (1, 1)
    power = 0
    if STAR in piece:
        place = piece.index(STAR)
        fraction = read_fraction(piece[:place])
        power = read_power(piece[place + 1:])
    elif LETTER_X in piece:
        power = read_power(piece)
    else:
        fraction = read_fraction(piece)
    if fraction is None or power is None:
        return None
    return (power, sign * fraction[0], fraction[1])


def read_power(piece):
    """Give the power of "x" or of "x^" and digits, or None if it's neither."""
    if piece == [LETTER_X]:
        return 1
    if piece[:2] == [LETTER_X, CARET]:
        return read_whole(piece[2:])
    return None


def read_fraction(piece):
    """Give (top, bottom) of digits, or of digits, "/" and digits; None if it's neither or bottom is 0."""
    place = len(piece)
    bottom = 1
    if SLASH in piece:
        place = piece.index(SLASH)
        bottom = read_whole(piece[place + 1:])
    top = read_whole(piece[:place])
    if top is None or bottom is None or bottom == 0:
        return None
    return (top, bottom)


def read_whole(piece):
    """Give the whole number of one or more digits, or None if it's something else."""
    if piece == []:
        return None
    number = 0
    for byte in piece:
        if byte < DIGIT_ZERO or byte > DIGIT_NINE:
            return None
        number = number * 10 + byte - DIGIT_ZERO
    return number


def powers_fall(terms):
    """Tell whether each term's power is below that of the one before it."""
    return all([before[0] > behind[0] for before, behind in zip(terms, terms[1:])])


def lowest_term(term):
    """Give the same term in lowest terms, with its bottom above 0."""
    divisor = greatest_divisor(term[1], term[2])
    if term[2] < 0:
        divisor = -divisor
    return (term[0], term[1] // divisor, term[2] // divisor)


def terms_over(numbers, bottom):
    """Give the terms of the polynomial with these numbers, from power 0 on, each divided by bottom."""
    powers = [power for power in range(len(numbers)) if numbers[power] != 0]
    return [lowest_term((power, numbers[power], bottom)) for power in reversed(powers)]


def write_polynomial(terms):
    """Give the text of a polynomial's terms."""
    if terms == []:
        return [DIGIT_ZERO]
    text = []
    for power, top, bottom in terms:
        if text != []:
            text.extend([BLANK, MINUS if top < 0 else PLUS, BLANK])
        elif top < 0:
            text.append(MINUS)
        text.extend(write_term(power, abs(top), bottom))
    return text


def write_term(power, top, bottom):
    """Give the text of a term whose number is above 0."""
    if power == 0:
        return write_fraction(top, bottom)
    text = []
    if top != 1 or bottom != 1:
        text.extend(write_fraction(top, bottom))
        text.append(STAR)
    text.append(LETTER_X)
    if power != 1:
        text.append(CARET)
        text.extend(write_whole(power))
    return text


def write_fraction(top, bottom):
    """Give the text of a number that's above 0 and in lowest terms."""
    if bottom == 1:
        return write_whole(top)
    return write_whole(top) + [SLASH] + write_whole(bottom)


def write_whole(number):
    """Give the digits of a whole number that's 0 or more."""
    # Digit by digit, since Python's own str refuses numbers of some thousand digits.
    digits = []
    rest = number
    while rest > 9:
        digits.append(DIGIT_ZERO + rest % 10)
        rest = rest // 10
    digits.append(DIGIT_ZERO + rest)
    digits.reverse()
    return digits
