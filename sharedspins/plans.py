"""Plans: each person's answer to each of their questions, and what that wins."""

from sharedspins.refusals import NOT_AS_TOLD


def try_plan(game, row):
    """The call plan: what it wins, and how much all counts."""
    if not is_plan(game, row):
        return [NOT_AS_TOLD]
    return [worth_of_plan(game, row), sum(game.weights)]


def best_plan(game):
    """The call best: the most that a plan wins, how much all counts, the first such plan."""
    first = plan_at(game, 0)
    most = worth_of_plan(game, first)
    for place in range(1, count_plans(game)):
        row = plan_at(game, place)
        worth = worth_of_plan(game, row)
        # Plans come in order, so one that only wins as much is not the first.
        if worth > most:
            most = worth
            first = row
    return [most, sum(game.weights)] + first


def plans_that_win(game, much):
    """The call plans: how many plans win just so much, and how many there are."""
    found = 0
    for place in range(count_plans(game)):
        if worth_of_plan(game, plan_at(game, place)) == much:
            found += 1
    return [found, count_plans(game)]


def is_plan(game, row):
    """Whether a row has an answer to each question of each person."""
    if len(row) != game.persons * game.questions:
        return False
    return all([answer <= 1 for answer in row])


def count_plans(game):
    """How many plans there are."""
    return 1 << (game.persons * game.questions)


def plan_at(game, place):
    """The plan at a place among all, in order: the first answer counts most."""
    length = game.persons * game.questions
    return [(place >> (length - 1 - k)) & 1 for k in range(length)]


def worth_of_plan(game, row):
    """How much those rows count together at which the plan's answers win."""
    total = 0
    for place, number in enumerate(answered_by_plan(game, row)):
        if (game.winning[place] >> number) & 1 == 1:
            total += game.weights[place]
    return total


def answered_by_plan(game, row):
    """What the plan answers to each row that's asked, as one number each, in the order of those rows."""
    numbers = [0]
    for person in range(game.persons):
        start = person * game.questions
        own = row[start:start + game.questions]
        numbers = answered_by_one_more(numbers, own, person)
    return numbers


def answered_by_one_more(numbers, own, person):
    """What is answered when one more person is asked each question behind each row of the earlier ones."""
    longer = []
    for number in numbers:
        for answer in own:
            longer.append(number + (answer << person))
    return longer
