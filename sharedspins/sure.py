"""What's sure of the spins, and what measuring them makes sure."""

from sharedspins.measurements import NO_LETTER, X, Z, Measurement
from sharedspins.measurements import are_letters, go_together, product_of, products_of_some
from sharedspins.refusals import NOT_AS_TOLD, NOT_SURE_SO

HAD_EVEN_CHANCE = 1
WAS_SURE = 2


def refresh(game):
    """The call fresh: all is sure that's sure at first, nothing was measured."""
    let_first_be_sure(game)
    return [len(game.owners)]


def ask_sure(game, letters):
    """The call sure: the sign of a measurement that's sure."""
    if not are_letters(letters, len(game.owners)):
        return [NOT_AS_TOLD]
    signs = signs_that_are_sure(game)
    if tuple(letters) not in signs:
        return [NOT_SURE_SO]
    return [signs[tuple(letters)]]


def measure(game, outcome, letters):
    """The call measure: with this outcome, unless it's sure with the other sign."""
    if not are_letters(letters, len(game.owners)) or outcome > 1:
        return [NOT_AS_TOLD]
    signs = signs_that_are_sure(game)
    if tuple(letters) not in signs:
        let_be_sure(game, Measurement(outcome, letters))
        game.measured = True
        return [HAD_EVEN_CHANCE]
    if signs[tuple(letters)] != outcome:
        return [NOT_SURE_SO]
    return [WAS_SURE]


def let_first_be_sure(game):
    """What's sure is as at first, and nothing was measured."""
    game.sure = [sure_at_first(game, spin) for spin in range(len(game.owners))]
    game.measured = False


def sure_at_first(game, spin):
    """What's sure at first of one spin: X on it, Z on each that's linked with it."""
    letters = [NO_LETTER] * len(game.owners)
    letters[spin] = X
    for other in range(len(game.owners)):
        # A link has the lesser spin first.
        if (min(spin, other), max(spin, other)) in game.links:
            letters[other] = Z
    return Measurement(0, letters)


def signs_that_are_sure(game):
    """The sign of each measurement that's sure, by its letters."""
    signs = {}
    for measurement in products_of_some(game.sure, len(game.owners)):
        signs[tuple(measurement.letters)] = measurement.sign
    return signs


def let_be_sure(game, measured):
    """One that has an even chance becomes sure, in the place of the first that can't be measured together with it."""
    sure = []
    gone = None
    for measurement in game.sure:
        if go_together(measurement, measured):
            sure.append(measurement)
        elif gone is None:
            gone = measurement
            sure.append(measured)
        else:
            sure.append(product_of(measurement, gone))
    game.sure = sure
