"""What one object keeps from call to call, and how it is begun."""

from sharedspins.refusals import NOT_AS_TOLD
from sharedspins.spins import set_spins


class Game:
    """A game and its spins.

    weights and winning have a number for each row that's asked; own has a measurement for each
    person's each question, in a plan's order; sure has as many measurements as there are spins.
    """

    def __init__(self):
        self.begun = False
        self.persons = 0
        self.questions = 0
        self.weights = []
        self.winning = []
        self.owners = []
        self.links = []
        self.sure = []
        self.measured = False
        self.own = []


def begin(game, persons, questions):
    """The call begin: from here on the game is a new one."""
    if not may_begin(persons, questions):
        return [NOT_AS_TOLD]
    rows = count_rows(persons, questions)
    game.begun = True
    game.persons = persons
    game.questions = questions
    game.weights = [1] * rows
    game.winning = [0] * rows
    set_spins(game, [])
    return [0]


def show_state(game):
    """The call state: how many there are of each, whether something was measured, whose each spin is."""
    measured = 1 if game.measured else 0
    return [game.persons, game.questions, len(game.owners), len(game.links), measured] + game.owners


def may_begin(persons, questions):
    """Whether there are games of so many persons, each with so many questions."""
    if persons < 2 or persons > 4:
        return False
    if questions < 1 or questions > 3:
        return False
    return persons * questions <= 8


def count_rows(persons, questions):
    """How many rows may be asked."""
    rows = 1
    for person in range(persons):
        rows = rows * questions
    return rows
