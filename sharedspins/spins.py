"""Shared spins: whose each one is, and which are linked."""

from sharedspins.refusals import NONE_SUCH, NOT_AS_TOLD

MOST_SPINS = 6


def place_spins(game, row):
    """The call spins: one spin for each person in the row, none linked."""
    if not are_owners(game, row):
        return [NOT_AS_TOLD]
    game.owners = list(row)
    game.links = []
    return [len(game.owners)]


def are_owners(game, row):
    """Whether a row can tell whose the spins are."""
    if len(row) > MOST_SPINS:
        return False
    return all([person < game.persons for person in row])


def link_spins(game, i, j):
    """The call link: two spins are linked, or not any more if they were."""
    if i >= len(game.owners) or j >= len(game.owners):
        return [NONE_SUCH]
    if i == j:
        return [NOT_AS_TOLD]
    # The lesser one first, so that a link is the same from either side.
    pair = (min(i, j), max(i, j))
    if pair in game.links:
        game.links.remove(pair)
    else:
        game.links.append(pair)
    return [len(game.links)]
