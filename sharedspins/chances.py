"""What each one measures, and what's won by answering so."""

from sharedspins.asked import count_ones, is_asked, place_of_row, row_at
from sharedspins.measurements import NO_LETTER, Measurement, are_letters, products_of_some
from sharedspins.plans import best_plan
from sharedspins.refusals import NONE_SUCH, NOT_AS_TOLD
from sharedspins.sure import signs_that_are_sure

NOTHING_SURE = 0
SURELY_EVEN = 1


def set_own(game, person, question, sign, letters):
    """The call mine: what one person measures, asked one question."""
    if person >= game.persons or question >= game.questions:
        return [NONE_SUCH]
    if sign > 1 or not are_own_letters(game, person, letters):
        return [NOT_AS_TOLD]
    game.own[person * game.questions + question] = Measurement(sign, letters)
    return [0]


def are_own_letters(game, person, letters):
    """Whether these are letters on this person's spins alone."""
    if not are_letters(letters, len(game.owners)):
        return False
    return all([letter == NO_LETTER or owner == person for letter, owner in zip(letters, game.owners)])


def chance_of_answers(game, both):
    """The call chance: the chance of a row of answers, out of how many, and whether they win."""
    if not are_row_and_bits(game, both):
        return [NOT_AS_TOLD]
    row = both[:game.persons]
    number = number_of_bits(both[game.persons:])
    sums = sums_at(game, signs_that_are_sure(game), row)
    won = (game.winning[place_of_row(game, row)] >> number) & 1
    return [chance_of_number(sums, number), 1 << game.persons, won]


def parity_of_some(game, both):
    """The call parity: what's sure of the sum of some persons' answers to a row that's asked."""
    if not are_row_and_bits(game, both):
        return [NOT_AS_TOLD]
    sums = sums_at(game, signs_that_are_sure(game), both[:game.persons])
    return [sums[number_of_bits(both[game.persons:])]]


def what_spins_win(game):
    """The call value: what spins win, how much all counts, and the most that a plan wins."""
    # A chance is told out of so many, so what else is told is taken so many times.
    whole = 1 << game.persons
    signs = signs_that_are_sure(game)
    won = 0
    for place, weight in enumerate(game.weights):
        sums = sums_at(game, signs, row_at(game, place))
        won += weight * chance_to_win(sums, game.winning[place])
    return [won, sum(game.weights) * whole, best_plan(game)[0] * whole]


def are_row_and_bits(game, both):
    """Whether this is a row that's asked and, right behind it, a row of 0 and 1 for each person."""
    if len(both) != 2 * game.persons:
        return False
    return is_asked(game, both[:game.persons]) and all([bit <= 1 for bit in both[game.persons:]])


def number_of_bits(bits):
    """A row of 0 and 1 as one number, the first one counting 1."""
    number = 0
    for place, bit in enumerate(bits):
        number += bit << place
    return number


def sums_at(game, signs, row):
    """What's sure of sums of answers to a row that's asked: at a number's place of the persons whose bits it has."""
    own = [game.own[person * game.questions + question] for person, question in enumerate(row)]
    return [sum_that_is_sure(signs, product) for product in products_of_some(own, len(game.owners))]


def sum_that_is_sure(signs, product):
    """What's sure of the sum of answers whose measurements have this product."""
    letters = tuple(product.letters)
    if letters not in signs:
        return NOTHING_SURE
    return SURELY_EVEN + (signs[letters] + product.sign) % 2


def chance_of_number(sums, number):
    """The chance of the row of answers with this number."""
    chance = 0
    for some, known in enumerate(sums):
        if known != NOTHING_SURE:
            agrees = known == SURELY_EVEN + count_ones(some & number) % 2
            chance += 1 if agrees else -1
    return chance


def chance_to_win(sums, winning):
    """The chances of all rows of answers that win, together."""
    return sum([chance_of_number(sums, number) for number in range(len(sums)) if (winning >> number) & 1 == 1])
