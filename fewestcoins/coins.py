"""How sums are paid with coins of given kinds: a list of worths, rising, whose first is 1."""


def fewest_up_to(kinds, top):
    """The fewest coins for each sum of 0 to top."""
    fewest = [0]
    for total in range(1, top + 1):
        fewest.append(1 + min([fewest[total - worth] for worth in kinds if worth <= total]))
    return fewest


def greatest_first(kinds, total):
    """Of each kind, rising, how many coins are taken if always the greatest that fits is."""
    falling = []
    rest = total
    for worth in reversed(kinds):
        falling.append(rest // worth)
        rest = rest % worth
    return list(reversed(falling))


def fewest_way(kinds, total):
    """Of each kind, rising, how many coins the way with the fewest takes that has most of the greater kinds."""
    fewest = fewest_up_to(kinds, total)
    falling = []
    rest = total
    for worth in reversed(kinds):
        taken = 0
        # A coin belongs to some way with the fewest exactly if the rest without it takes one coin less.
        while worth <= rest and fewest[rest - worth] + 1 == fewest[rest]:
            rest -= worth
            taken += 1
        falling.append(taken)
    return list(reversed(falling))


def count_fewest_ways(kinds, total):
    """In how many ways, order not looked at, total is made with the fewest coins."""
    # This is how it stands with coins of 1 alone; the other kinds come in one after another,
    # so that no way is counted again in another order.
    fewest = list(range(total + 1))
    ways = [1] * (total + 1)
    for worth in kinds[1:]:
        for part in range(worth, total + 1):
            with_worth = fewest[part - worth] + 1
            if with_worth < fewest[part]:
                fewest[part] = with_worth
                ways[part] = ways[part - worth]
            elif with_worth == fewest[part]:
                ways[part] += ways[part - worth]
    return ways[total]


def edge_of(kinds):
    """The two greatest kinds together, or 2 if 1 is the only kind."""
    if len(kinds) == 1:
        return 2
    return kinds[-1] + kinds[-2]


def least_worse(kinds):
    """The least sum for which the greatest first takes more than the fewest, or None."""
    # If no sum up to the edge is such, none is at all.
    top = edge_of(kinds)
    fewest = fewest_up_to(kinds, top)
    for total in range(top + 1):
        if sum(greatest_first(kinds, total)) > fewest[total]:
            return total
    return None
