"""What the document says, counted in the plainest way, to hold the program against."""

from fewestcoins.purse import answers

CODES = {"begin": 0, "kind": 1, "drop": 2, "fewest": 3, "greedy": 4, "how": 5, "ways": 6, "worse": 7, "always": 8,
         "least": 9, "bad": 10, "most": 11, "farthest": 12, "plus": 13, "without": 14, "best": 15, "steps": 16,
         "kinds": 17, "sums": 18}

ALONE = ("begin", "always", "least", "steps", "kinds")

GREATEST_ARGUMENT = 4294967295

# Of the calls that take a sum or a number of coins, the least and the greatest that is not refused.
LIMITS = {"fewest": (0, 1000), "greedy": (0, 1000), "how": (0, 300), "ways": (0, 60), "worse": (0, 1000),
          "bad": (0, 200), "most": (0, 1000), "farthest": (1, 20), "best": (2, 60), "sums": (0, 1000)}


def flat(calls):
    """[("kind", 3), ("always",)] as the list of numbers that is handed in."""
    numbers = []
    for call in calls:
        numbers.append(CODES[call[0]])
        numbers.extend(call[1:])
    return numbers


def split(given):
    """The list that is given back, as one list for each call."""
    parts = []
    place = 0
    while place < len(given):
        size = given[place]
        parts.append(given[place + 1:place + 1 + size])
        if len(parts[-1]) != size or size < 1:
            raise AssertionError(f"counts do not fit: {given}")
        place += 1 + size
    return parts


def ask(calls):
    return split(answers(flat(calls)))


def made(kinds):
    """The calls that lead to these kinds (rising, 1 first)."""
    return [("begin",)] + [("kind", worth) for worth in kinds[1:]]


def ask_of(kinds, calls):
    """What calls answer once the kinds are these."""
    return ask(made(kinds) + calls)[len(kinds):]


def all_ways(kinds, total):
    """Every way to make total: of each kind, rising, how many coins."""
    if len(kinds) == 1:
        return [(total,)]
    found = []
    for taken in range(total // kinds[-1] + 1):
        for way in all_ways(kinds[:-1], total - taken * kinds[-1]):
            found.append(way + (taken,))
    return found


def fewest_ways(kinds, total):
    found = all_ways(kinds, total)
    fewest = min(sum(way) for way in found)
    return [way for way in found if sum(way) == fewest]


def most_of_greatest(found):
    """Of these ways the one with most of the greatest kind, of such most of the next one, and so on."""
    return max(found, key=lambda way: way[::-1])


def take_greatest_first(kinds, total):
    """Coin by coin, always the greatest that fits."""
    taken = [0] * len(kinds)
    while total > 0:
        place = max(place for place in range(len(kinds)) if kinds[place] <= total)
        taken[place] += 1
        total -= kinds[place]
    return taken


def fewest_by_rounds(kinds, top):
    """The fewest for each sum of 0 to top: in each round what one more coin reaches."""
    fewest = {0: 0}
    reached = [0]
    coins = 0
    while reached:
        coins += 1
        further = {total + worth for total in reached for worth in kinds if total + worth <= top}
        reached = sorted(total for total in further if total not in fewest)
        for total in reached:
            fewest[total] = coins
    return [fewest[total] for total in range(top + 1)]


def ways_with(kinds, total, coins):
    """All ways that make total with just so many coins, those with most of the greater kinds first."""
    if total < coins or total > coins * kinds[-1]:
        return []
    if len(kinds) == 1:
        return [(total,)]
    found = []
    for taken in range(min(coins, total // kinds[-1]), -1, -1):
        for way in ways_with(kinds[:-1], total - taken * kinds[-1], coins - taken):
            found.append(way + (taken,))
    return found


def worse_sums(kinds, top):
    fewest = fewest_by_rounds(kinds, top)
    return [total for total in range(top + 1) if sum(take_greatest_first(kinds, total)) > fewest[total]]


def edge(kinds):
    return 2 if kinds == [1] else sum(kinds[-2:])


def always_fewest(kinds):
    return 0 if worse_sums(kinds, edge(kinds)) else 1


def reached_with(kinds, coins, top):
    """All sums up to top that so many coins, or fewer, make."""
    reached = {0}
    for _ in range(coins):
        reached = reached | {total + worth for total in reached for worth in kinds if total + worth <= top}
    return reached


def farthest_sum(kinds, coins):
    reached = reached_with(kinds, coins, 1000)
    return min([total for total in range(1001) if total not in reached], default=1001) - 1


def together(kinds, top):
    """How many coins all sums up to top take together, each by the fewest."""
    return sum(fewest_by_rounds(kinds, top))


def best_kind(kinds, top):
    """What best answers: each kind that isn't there is tried."""
    now = together(kinds, top)
    tried = [(together(sorted(kinds + [worth]), top), worth) for worth in range(2, top + 1) if worth not in kinds]
    coins, worth = min([pair for pair in tried if pair[0] < now], default=(now, 1))
    return [worth, coins, now]


def in_steps(kinds):
    return 1 if all(greater in range(0, 101, less) for less, greater in zip(kinds, kinds[1:])) else 0


class Model:
    """The nineteen calls by the words of the document."""

    def __init__(self):
        self.kinds = None

    def answer(self, name, number=0):
        if name == "begin":
            self.kinds = [1]
            return [0]
        if self.kinds is None:
            return [-11]
        if name in ("kind", "drop"):
            return [self.change(name, number)]
        if name in ("plus", "without"):
            return self.tell_otherwise(name, number)
        if name in ("always", "least"):
            return self.tell_always(name)
        if name == "steps":
            return [in_steps(self.kinds)]
        if name == "kinds":
            return [len(self.kinds)] + self.kinds
        least, greatest = LIMITS[name]
        if number < least or number > greatest:
            return [-22]
        if name in ("fewest", "greedy", "worse", "ways", "how"):
            return self.tell_sum(name, number)
        return self.tell_up_to(name, number)

    def change(self, name, worth):
        if name == "kind":
            if not 2 <= worth <= 100:
                return -22
            if worth in self.kinds:
                return -17
            if len(self.kinds) == 6:
                return -28
            self.kinds = sorted(self.kinds + [worth])
        else:
            if worth not in self.kinds:
                return -2
            if worth == 1:
                return -22
            self.kinds = [other for other in self.kinds if other != worth]
        return len(self.kinds)

    def tell_otherwise(self, name, worth):
        if name == "plus":
            if not 2 <= worth <= 100:
                return [-22]
            if worth in self.kinds:
                return [-17]
            others = sorted(self.kinds + [worth])
        else:
            if worth not in self.kinds:
                return [-2]
            if worth == 1:
                return [-22]
            others = [other for other in self.kinds if other != worth]
        return [always_fewest(others), always_fewest(self.kinds)]

    def tell_always(self, name):
        found = worse_sums(self.kinds, edge(self.kinds))
        if name == "always":
            return [0 if found else 1, edge(self.kinds)]
        if not found:
            return [-33]
        return [found[0], fewest_by_rounds(self.kinds, found[0])[-1], sum(take_greatest_first(self.kinds, found[0]))]

    def tell_sum(self, name, total):
        fewest = fewest_by_rounds(self.kinds, total)[total]
        greedy = take_greatest_first(self.kinds, total)
        if name == "fewest":
            return [fewest]
        if name == "greedy":
            return [sum(greedy)] + greedy
        if name == "worse":
            return [sum(greedy) - fewest]
        found = ways_with(self.kinds, total, fewest)
        if name == "ways":
            return [len(found)]
        return [fewest] + list(found[0])

    def tell_up_to(self, name, number):
        if name == "farthest":
            return [farthest_sum(self.kinds, number)]
        if name == "best":
            return best_kind(self.kinds, number)
        if name == "bad":
            found = worse_sums(self.kinds, number)
            return [len(found)] + found
        fewest = fewest_by_rounds(self.kinds, number)
        if name == "most":
            return [fewest.index(max(fewest)), max(fewest)]
        return [sum(fewest), sum(sum(take_greatest_first(self.kinds, total)) for total in range(number + 1))]
