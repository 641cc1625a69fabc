"""The rows that are asked: which answers win there, and how much they count."""

from sharedspins.refusals import NOT_AS_TOLD

MOST_WEIGHT = 99


def let_win(game, which, row):
    """The call wins: just these rows of answers win at a row that's asked."""
    # One bit of which stands for each row of answers, so none may stand above the last one's.
    if not is_asked(game, row) or which >= 1 << (1 << game.persons):
        return [NOT_AS_TOLD]
    place = place_of_row(game, row)
    earlier = game.winning[place]
    game.winning[place] = which
    return [earlier]


def let_sum_win(game, parity, row):
    """The call odd: those rows of answers win that have an even or an odd sum."""
    if not is_asked(game, row) or parity > 1:
        return [NOT_AS_TOLD]
    which = rows_with_parity(game.persons, parity)
    game.winning[place_of_row(game, row)] = which
    return [which]


def let_count(game, much, row):
    """The call counts: a row that's asked counts so much."""
    if not is_asked(game, row) or much > MOST_WEIGHT:
        return [NOT_AS_TOLD]
    place = place_of_row(game, row)
    earlier = game.weights[place]
    game.weights[place] = much
    return [earlier]


def show_row(game, row):
    """The call row: how much a row that's asked counts, and which rows of answers win there."""
    if not is_asked(game, row):
        return [NOT_AS_TOLD]
    place = place_of_row(game, row)
    return [game.weights[place], game.winning[place]]


def is_asked(game, row):
    """Whether a row has a question for each person."""
    if len(row) != game.persons:
        return False
    return all([question < game.questions for question in row])


def place_of_row(game, row):
    """Where a row that's asked stands among all of them, the last person's question going fastest."""
    place = 0
    for question in row:
        place = place * game.questions + question
    return place


def row_at(game, place):
    """The row that's asked at a place among all of them."""
    row = []
    for person in range(game.persons):
        row.insert(0, place % game.questions)
        place = place // game.questions
    return row


def rows_with_parity(persons, parity):
    """The rows of answers with an even (0) or an odd (1) sum, as one number."""
    which = 0
    for number in range(1 << persons):
        if count_ones(number) % 2 == parity:
            which = which | (1 << number)
    return which


def count_ones(number):
    """How many persons answer 1 in the row of answers with this number."""
    ones = 0
    while number > 0:
        ones += number % 2
        number = number // 2
    return ones
