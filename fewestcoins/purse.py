"""The calls on a purse of kinds of coins, and what they answer."""

from fewestcoins.coins import count_fewest_ways, edge_of, fewest_up_to, fewest_way, greatest_first, least_worse

NOT_THERE = -2
NOT_BEGUN = -11
SO_ALREADY = -17
OUT_OF_RANGE = -22
TOO_MANY = -28
NONE_SUCH = -33

MOST_KINDS = 6
LEAST_WORTH = 2
GREATEST_WORTH = 100
GREATEST_SUM = 1000
GREATEST_SUM_OF_HOW = 300
GREATEST_SUM_OF_WAYS = 60


class Purse:
    """What the calls are made on."""

    def __init__(self):
        # Rising; empty only before a begin, since the kind of 1 is never dropped.
        self.worths = []


def begin(purse):
    purse.worths = [1]
    return [0]


def kind(purse, worth):
    if worth < LEAST_WORTH or worth > GREATEST_WORTH:
        return [OUT_OF_RANGE]
    if worth in purse.worths:
        return [SO_ALREADY]
    if len(purse.worths) == MOST_KINDS:
        return [TOO_MANY]
    purse.worths = sorted(purse.worths + [worth])
    return [len(purse.worths)]


def drop(purse, worth):
    if worth not in purse.worths:
        return [NOT_THERE]
    if worth == 1:
        return [OUT_OF_RANGE]
    purse.worths = [other for other in purse.worths if other != worth]
    return [len(purse.worths)]


def fewest(purse, total):
    if total > GREATEST_SUM:
        return [OUT_OF_RANGE]
    return [fewest_up_to(purse.worths, total)[total]]


def greedy(purse, total):
    if total > GREATEST_SUM:
        return [OUT_OF_RANGE]
    counts = greatest_first(purse.worths, total)
    return [sum(counts)] + counts


def how(purse, total):
    if total > GREATEST_SUM_OF_HOW:
        return [OUT_OF_RANGE]
    counts = fewest_way(purse.worths, total)
    return [sum(counts)] + counts


def ways(purse, total):
    if total > GREATEST_SUM_OF_WAYS:
        return [OUT_OF_RANGE]
    return [count_fewest_ways(purse.worths, total)]


def worse(purse, total):
    if total > GREATEST_SUM:
        return [OUT_OF_RANGE]
    return [sum(greatest_first(purse.worths, total)) - fewest_up_to(purse.worths, total)[total]]


def always(purse):
    is_always = 1 if least_worse(purse.worths) is None else 0
    return [is_always, edge_of(purse.worths)]


def least(purse):
    total = least_worse(purse.worths)
    if total is None:
        return [NONE_SUCH]
    return [total, fewest_up_to(purse.worths, total)[total], sum(greatest_first(purse.worths, total))]


BEGIN = 0

# The calls that have no number behind theirs: begin, always, least, steps, kinds.
CALLS_ALONE = (0, 8, 9, 16, 17)

ACTIONS_ALONE = {0: begin, 8: always, 9: least}

ACTIONS_WITH_NUMBER = {1: kind, 2: drop, 3: fewest, 4: greedy, 5: how, 6: ways, 7: worse}


def answer_alone(purse, call):
    if call != BEGIN and not purse.worths:
        return [NOT_BEGUN]
    action = ACTIONS_ALONE[call]
    return action(purse)


def answer_with_number(purse, call, number):
    if not purse.worths:
        return [NOT_BEGUN]
    action = ACTIONS_WITH_NUMBER[call]
    return action(purse, number)


def answers(calls):
    """For each of the calls, in order, how many numbers are answered, then these."""
    purse = Purse()
    given = []
    place = 0
    while place < len(calls):
        call = calls[place]
        if call in CALLS_ALONE:
            answer = answer_alone(purse, call)
            place += 1
        else:
            answer = answer_with_number(purse, call, calls[place + 1])
            place += 2
        given.append(len(answer))
        given.extend(answer)
    return given
