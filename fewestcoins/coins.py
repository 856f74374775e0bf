"""How sums are paid with coins of given kinds: a list of worths, rising, whose first is 1."""


def with_one_more(fewest, worth):
    """The fewest coins for the same sums (0, 1 and so on) if worth is a kind, too."""
    changed = fewest[:worth]
    for total in range(worth, len(fewest)):
        # What is left behind one coin of worth may take more of them.
        changed.append(min(fewest[total], changed[total - worth] + 1))
    return changed


def fewest_up_to(kinds, top):
    """The fewest coins for each sum of 0 to top."""
    # With coins of 1 alone each sum takes as many as it is.
    fewest = list(range(top + 1))
    for worth in kinds[1:]:
        fewest = with_one_more(fewest, worth)
    return fewest


def greatest_first(kinds, total):
    """Of each kind, rising, how many coins are taken if always the greatest that fits is."""
    falling = []
    rest = total
    for worth in reversed(kinds):
        falling.append(rest // worth)
        rest = rest % worth
    return list(reversed(falling))


def greatest_first_up_to(kinds, top):
    """For each sum of 0 to top how many coins are taken if always the greatest that fits is."""
    taken = [0]
    for total in range(1, top + 1):
        greatest = max([worth for worth in kinds if worth <= total])
        taken.append(taken[total - greatest] + 1)
    return taken


def fewest_way(kinds, total):
    """Of each kind, rising, how many coins the way with the fewest takes that has most of the greater kinds."""
    fewest = fewest_up_to(kinds, total)
    falling = []
    rest = total
    for worth in reversed(kinds):
        taken = 0
        # A coin belongs to some way with the fewest exactly if the rest without it takes one coin less.
        while worth <= rest and fewest[rest - worth] + 1 == fewest[rest]:
            rest -= worth
            taken += 1
        falling.append(taken)
    return list(reversed(falling))


def count_fewest_ways(kinds, total):
    """In how many ways, order not looked at, total is made with the fewest coins."""
    # This is how it stands with coins of 1 alone; the other kinds come in one after another,
    # so that no way is counted again in another order.
    fewest = list(range(total + 1))
    ways = [1] * (total + 1)
    for worth in kinds[1:]:
        for part in range(worth, total + 1):
            with_worth = fewest[part - worth] + 1
            if with_worth < fewest[part]:
                fewest[part] = with_worth
                ways[part] = ways[part - worth]
            elif with_worth == fewest[part]:
                ways[part] += ways[part - worth]
    return ways[total]


def edge_of(kinds):
    """The two greatest kinds together, or 2 if 1 is the only kind."""
    if len(kinds) == 1:
        return 2
    return kinds[-1] + kinds[-2]


def worse_up_to(kinds, top):
    """The sums of 0 to top, rising, for which the greatest first takes more than the fewest."""
    fewest = fewest_up_to(kinds, top)
    taken = greatest_first_up_to(kinds, top)
    return [total for total in range(top + 1) if taken[total] > fewest[total]]


def least_worse(kinds):
    """The least sum for which the greatest first takes more than the fewest, or None."""
    # If no sum up to the edge is such, none is at all.
    found = worse_up_to(kinds, edge_of(kinds))
    return found[0] if found else None


def farthest_with(kinds, most, top):
    """The greatest sum, but top at most, up to which each takes at most so many coins."""
    fewest = fewest_up_to(kinds, top)
    for total in range(1, top + 1):
        if fewest[total] > most:
            return total - 1
    return top


def best_one_more(kinds, top):
    """Which kind of 2 to top, one more, lets the sums up to top take fewest coins together, and how many.

    Of kinds that do alike it is the least; 1 if by none the sums take fewer.
    """
    fewest = fewest_up_to(kinds, top)
    best = 1
    together = sum(fewest)
    for worth in range(2, top + 1):
        # A kind that is there already makes them no fewer, so it is not chosen.
        with_worth = sum(with_one_more(fewest, worth))
        if with_worth < together:
            best = worth
            together = with_worth
    return (best, together)


def in_steps(kinds):
    """Whether each kind is a multiple of the one before."""
    for place in range(1, len(kinds)):
        if kinds[place] % kinds[place - 1] != 0:
            return False
    return True
