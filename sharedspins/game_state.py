"""What one object keeps from call to call, and how it is begun."""

from sharedspins.refusals import NOT_AS_TOLD


class Game:
    """A game and its spins; weights and winning have one number for each row that's asked."""

    def __init__(self):
        self.begun = False
        self.persons = 0
        self.questions = 0
        self.weights = []
        self.winning = []
        self.owners = []
        self.links = []


def begin(game, persons, questions):
    """The call begin: from here on the game is a new one."""
    if not may_begin(persons, questions):
        return [NOT_AS_TOLD]
    rows = count_rows(persons, questions)
    game.begun = True
    game.persons = persons
    game.questions = questions
    game.weights = [1] * rows
    game.winning = [0] * rows
    game.owners = []
    game.links = []
    return [0]


def may_begin(persons, questions):
    """Whether there are games of so many persons, each with so many questions."""
    if persons < 2 or persons > 4:
        return False
    if questions < 1 or questions > 3:
        return False
    return persons * questions <= 8


def count_rows(persons, questions):
    """How many rows may be asked."""
    rows = 1
    for person in range(persons):
        rows = rows * questions
    return rows
