"""Shared spins: whose each one is, and which are linked."""

from sharedspins.measurements import without_letters
from sharedspins.refusals import NONE_SUCH, NOT_AS_TOLD, SOMETHING_MEASURED
from sharedspins.sure import let_first_be_sure

MOST_SPINS = 6


def place_spins(game, row):
    """The call spins: one spin for each person in the row, none linked."""
    if not are_owners(game, row):
        return [NOT_AS_TOLD]
    set_spins(game, row)
    return [len(game.owners)]


def are_owners(game, row):
    """Whether a row can tell whose the spins are."""
    if len(row) > MOST_SPINS:
        return False
    return all([person < game.persons for person in row])


def set_spins(game, owners):
    """From here on these are the spins; each one's measurements are as at first."""
    game.owners = list(owners)
    game.links = []
    let_first_be_sure(game)
    game.own = [without_letters(len(owners))] * (game.persons * game.questions)


def link_spins(game, i, j):
    """The call link: two spins are linked, or not any more if they were."""
    if i >= len(game.owners) or j >= len(game.owners):
        return [NONE_SUCH]
    if i == j:
        return [NOT_AS_TOLD]
    if game.measured:
        return [SOMETHING_MEASURED]
    # The lesser one first, so that a link is the same from either side.
    pair = (min(i, j), max(i, j))
    if pair in game.links:
        game.links.remove(pair)
    else:
        game.links.append(pair)
    let_first_be_sure(game)
    return [len(game.links)]
