"""Measurements: what they are, and what they make together."""

NO_LETTER = 0
X = 1
Z = 3

# By two letters on one spin: the quarter turns that come with the letter that they make.
TURNS = ((0, 0, 0, 0), (0, 0, 1, 3), (0, 3, 0, 1), (0, 1, 3, 0))


class Measurement:
    """A sign, and a letter for each spin; never changed once it's made, so it may be kept in several places."""

    def __init__(self, sign, letters):
        self.sign = sign
        self.letters = letters


def are_letters(row, spins):
    """Whether a row has a letter for each of so many spins."""
    if len(row) != spins:
        return False
    # Z is the last letter.
    return all([letter <= Z for letter in row])


def without_letters(spins):
    """What each one measures at first, and the product of no measurements."""
    return Measurement(0, [NO_LETTER] * spins)


def go_together(one, other):
    """Whether two can be measured together."""
    differing = 0
    for first, second in zip(one.letters, other.letters):
        if first != NO_LETTER and second != NO_LETTER and first != second:
            differing += 1
    return differing % 2 == 0


def product_of(one, other):
    """The product of two that can be measured together."""
    letters = []
    turns = 0
    for first, second in zip(one.letters, other.letters):
        # As letters are numbered, the bits that just one of the two has are those of the letter that they make.
        letters.append(first ^ second)
        turns += TURNS[first][second]
    # Of such two the turns are 0 or 2, so halving them here is the same as halving those of all in the end.
    half = turns % 4 // 2
    return Measurement((one.sign + other.sign + half) % 2, letters)


def products_of_some(measurements, spins):
    """All products of some or none of these: at a number's place of those whose bits it has, the first one's bit 1."""
    products = [without_letters(spins)]
    for measurement in measurements:
        products = products + [product_of(earlier, measurement) for earlier in products]
    return products
