"""The calls on one new object, told in one list, and all that they answer."""

from sharedspins.asked import let_count, let_sum_win, let_win, show_row
from sharedspins.chances import chance_of_answers, parity_of_some, set_own, what_spins_win
from sharedspins.game_state import Game, begin, show_state
from sharedspins.plans import best_plan, plans_that_win, try_plan
from sharedspins.refusals import NOT_BEGUN
from sharedspins.spins import link_spins, place_spins
from sharedspins.sure import ask_sure, measure, refresh

BEGIN = 0
WINS = 1
ODD = 2
COUNTS = 3
PLAN = 4
BEST = 5
PLANS = 6
SPINS = 7
LINK = 8
FRESH = 9
SURE = 10
MEASURE = 11
MINE = 12
CHANCE = 13
PARITY = 14
VALUE = 15
ROW = 16

# By a call's number: how many whole numbers it has, ahead of its row if it has one.
NUMBERS = (2, 1, 1, 1, 0, 0, 1, 0, 2, 0, 0, 1, 3, 0, 0, 0, 0, 0)
# The calls that have a row: WINS, ODD, COUNTS, PLAN, SPINS, SURE, MEASURE, MINE, CHANCE, PARITY, ROW.
WITH_ROW = (1, 2, 3, 4, 7, 10, 11, 12, 13, 14, 16)


def answers(calls):
    """For each call, in order, how many numbers are answered, and these."""
    game = Game()
    told = []
    start = 0
    while start < len(calls):
        end = end_of_call(calls, start)
        answered = answer_call(game, calls[start], calls[start + 1:end])
        told.append(len(answered))
        told.extend(answered)
        start = end
    return told


def end_of_call(calls, start):
    """Where the call that begins at start ends, and the next one begins."""
    kind = calls[start]
    end = start + 1 + NUMBERS[kind]
    if kind in WITH_ROW:
        # Ahead of the row stands how many numbers it has.
        end = end + 1 + calls[end]
    return end


def answer_call(game, kind, given):
    """What one call answers; given is all that stands behind its number, a row's length too."""
    if kind == BEGIN:
        return begin(game, given[0], given[1])
    if not game.begun:
        return [NOT_BEGUN]
    if kind <= PLANS:
        return answer_of_plans(game, kind, given)
    if kind <= MEASURE:
        return answer_of_spins(game, kind, given)
    return answer_of_persons(game, kind, given)


def answer_of_plans(game, kind, given):
    """What the calls WINS to PLANS answer."""
    if kind == WINS:
        return let_win(game, given[0], given[2:])
    if kind == ODD:
        return let_sum_win(game, given[0], given[2:])
    if kind == COUNTS:
        return let_count(game, given[0], given[2:])
    if kind == PLAN:
        return try_plan(game, given[1:])
    if kind == BEST:
        return best_plan(game)
    return plans_that_win(game, given[0])


def answer_of_spins(game, kind, given):
    """What the calls SPINS to MEASURE answer."""
    if kind == SPINS:
        return place_spins(game, given[1:])
    if kind == LINK:
        return link_spins(game, given[0], given[1])
    if kind == FRESH:
        return refresh(game)
    if kind == SURE:
        return ask_sure(game, given[1:])
    return measure(game, given[0], given[2:])


def answer_of_persons(game, kind, given):
    """What the calls MINE to ROW answer, and state, which is behind them."""
    if kind == MINE:
        return set_own(game, given[0], given[1], given[2], given[4:])
    if kind == CHANCE:
        return chance_of_answers(game, given[1:])
    if kind == PARITY:
        return parity_of_some(game, given[1:])
    if kind == VALUE:
        return what_spins_win(game)
    if kind == ROW:
        return show_row(game, given[1:])
    return show_state(game)
