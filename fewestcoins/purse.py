"""The calls on a purse of kinds of coins, and what they answer."""

from fewestcoins.coins import best_one_more, count_fewest_ways, edge_of, farthest_with, fewest_up_to, fewest_way
from fewestcoins.coins import greatest_first, greatest_first_up_to, in_steps, least_worse, worse_up_to

NOT_THERE = -2
NOT_BEGUN = -11
SO_ALREADY = -17
OUT_OF_RANGE = -22
TOO_MANY = -28
NONE_SUCH = -33

MOST_KINDS = 6
LEAST_WORTH = 2
GREATEST_WORTH = 100
GREATEST_SUM = 1000
GREATEST_SUM_OF_HOW = 300
GREATEST_SUM_OF_WAYS = 60
GREATEST_SUM_OF_BAD = 200
LEAST_SUM_OF_BEST = 2
GREATEST_SUM_OF_BEST = 60
LEAST_COINS = 1
GREATEST_COINS = 20


class Purse:
    """What the calls are made on."""

    def __init__(self):
        # Rising; empty only before a begin, since the kind of 1 is never dropped.
        self.worths = []


def with_worth(worths, worth):
    return sorted(worths + [worth])


def without_worth(worths, worth):
    return [other for other in worths if other != worth]


def begin(purse):
    purse.worths = [1]
    return [0]


def kind(purse, worth):
    if worth < LEAST_WORTH or worth > GREATEST_WORTH:
        return [OUT_OF_RANGE]
    if worth in purse.worths:
        return [SO_ALREADY]
    if len(purse.worths) == MOST_KINDS:
        return [TOO_MANY]
    purse.worths = with_worth(purse.worths, worth)
    return [len(purse.worths)]


def drop(purse, worth):
    if worth not in purse.worths:
        return [NOT_THERE]
    if worth == 1:
        return [OUT_OF_RANGE]
    purse.worths = without_worth(purse.worths, worth)
    return [len(purse.worths)]


def fewest(purse, total):
    if total > GREATEST_SUM:
        return [OUT_OF_RANGE]
    return [fewest_up_to(purse.worths, total)[total]]


def greedy(purse, total):
    if total > GREATEST_SUM:
        return [OUT_OF_RANGE]
    counts = greatest_first(purse.worths, total)
    return [sum(counts)] + counts


def how(purse, total):
    if total > GREATEST_SUM_OF_HOW:
        return [OUT_OF_RANGE]
    counts = fewest_way(purse.worths, total)
    return [sum(counts)] + counts


def ways(purse, total):
    if total > GREATEST_SUM_OF_WAYS:
        return [OUT_OF_RANGE]
    return [count_fewest_ways(purse.worths, total)]


def worse(purse, total):
    if total > GREATEST_SUM:
        return [OUT_OF_RANGE]
    return [sum(greatest_first(purse.worths, total)) - fewest_up_to(purse.worths, total)[total]]


def always_fewest(worths):
    """1 if the greatest first is always fewest with these, else 0."""
    return 1 if least_worse(worths) is None else 0


def always(purse):
    return [always_fewest(purse.worths), edge_of(purse.worths)]


def least(purse):
    total = least_worse(purse.worths)
    if total is None:
        return [NONE_SUCH]
    return [total, fewest_up_to(purse.worths, total)[total], sum(greatest_first(purse.worths, total))]


def bad(purse, top):
    if top > GREATEST_SUM_OF_BAD:
        return [OUT_OF_RANGE]
    found = worse_up_to(purse.worths, top)
    return [len(found)] + found


def most(purse, top):
    if top > GREATEST_SUM:
        return [OUT_OF_RANGE]
    counts = fewest_up_to(purse.worths, top)
    greatest = max(counts)
    return [counts.index(greatest), greatest]


def farthest(purse, count):
    if count < LEAST_COINS or count > GREATEST_COINS:
        return [OUT_OF_RANGE]
    return [farthest_with(purse.worths, count, GREATEST_SUM)]


def plus(purse, worth):
    # Where there are as many kinds as there may be it's answered, too: the kind doesn't come in.
    if worth < LEAST_WORTH or worth > GREATEST_WORTH:
        return [OUT_OF_RANGE]
    if worth in purse.worths:
        return [SO_ALREADY]
    return [always_fewest(with_worth(purse.worths, worth)), always_fewest(purse.worths)]


def without(purse, worth):
    if worth not in purse.worths:
        return [NOT_THERE]
    if worth == 1:
        return [OUT_OF_RANGE]
    return [always_fewest(without_worth(purse.worths, worth)), always_fewest(purse.worths)]


def best(purse, top):
    if top < LEAST_SUM_OF_BEST or top > GREATEST_SUM_OF_BEST:
        return [OUT_OF_RANGE]
    found = best_one_more(purse.worths, top)
    return [found[0], found[1], sum(fewest_up_to(purse.worths, top))]


def steps(purse):
    return [1 if in_steps(purse.worths) else 0]


def kinds(purse):
    return [len(purse.worths)] + purse.worths


def sums(purse, top):
    if top > GREATEST_SUM:
        return [OUT_OF_RANGE]
    return [sum(fewest_up_to(purse.worths, top)), sum(greatest_first_up_to(purse.worths, top))]


BEGIN = 0

# The calls that have no number behind theirs.
ACTIONS_ALONE = {0: begin, 8: always, 9: least, 16: steps, 17: kinds}

ACTIONS_WITH_NUMBER = {1: kind, 2: drop, 3: fewest, 4: greedy, 5: how, 6: ways, 7: worse, 10: bad, 11: most,
                       12: farthest, 13: plus, 14: without, 15: best, 18: sums}


def answer_alone(purse, call):
    if call != BEGIN and not purse.worths:
        return [NOT_BEGUN]
    action = ACTIONS_ALONE[call]
    return action(purse)


def answer_with_number(purse, call, number):
    if not purse.worths:
        return [NOT_BEGUN]
    action = ACTIONS_WITH_NUMBER[call]
    return action(purse, number)


def answers(calls):
    """For each of the calls, in order, how many numbers are answered, then these."""
    purse = Purse()
    given = []
    place = 0
    while place < len(calls):
        call = calls[place]
        if call in ACTIONS_ALONE:
            answer = answer_alone(purse, call)
            place += 1
        else:
            answer = answer_with_number(purse, call, calls[place + 1])
            place += 2
        given.append(len(answer))
        given.extend(answer)
    return given
