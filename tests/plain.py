"""What the document says, counted in the plainest way, to hold the program against."""

from fewestcoins.purse import answers

CODES = {"begin": 0, "kind": 1, "drop": 2, "fewest": 3, "greedy": 4, "how": 5, "ways": 6, "worse": 7, "always": 8,
         "least": 9}

ALONE = ("begin", "always", "least")

ALL_CODES_ALONE = (0, 8, 9, 16, 17)

GREATEST_ARGUMENT = 4294967295


def flat(calls):
    """[("kind", 3), ("always",)] as the list of numbers that is handed in."""
    numbers = []
    for call in calls:
        numbers.append(CODES[call[0]])
        numbers.extend(call[1:])
    return numbers


def split(given):
    """The list that is given back, as one list for each call."""
    parts = []
    place = 0
    while place < len(given):
        size = given[place]
        parts.append(given[place + 1:place + 1 + size])
        if len(parts[-1]) != size or size < 1:
            raise AssertionError(f"counts do not fit: {given}")
        place += 1 + size
    return parts


def ask(calls):
    return split(answers(flat(calls)))


def made(kinds):
    """The calls that lead to these kinds (rising, 1 first)."""
    return [("begin",)] + [("kind", worth) for worth in kinds[1:]]


def ask_of(kinds, calls):
    """What calls answer once the kinds are these."""
    return ask(made(kinds) + calls)[len(kinds):]


def all_ways(kinds, total):
    """Every way to make total: of each kind, rising, how many coins."""
    if len(kinds) == 1:
        return [(total,)]
    found = []
    for taken in range(total // kinds[-1] + 1):
        for way in all_ways(kinds[:-1], total - taken * kinds[-1]):
            found.append(way + (taken,))
    return found


def fewest_ways(kinds, total):
    found = all_ways(kinds, total)
    fewest = min(sum(way) for way in found)
    return [way for way in found if sum(way) == fewest]


def most_of_greatest(found):
    """Of these ways the one with most of the greatest kind, of such most of the next one, and so on."""
    return max(found, key=lambda way: way[::-1])


def take_greatest_first(kinds, total):
    """Coin by coin, always the greatest that fits."""
    taken = [0] * len(kinds)
    while total > 0:
        place = max(place for place in range(len(kinds)) if kinds[place] <= total)
        taken[place] += 1
        total -= kinds[place]
    return taken


def fewest_by_rounds(kinds, top):
    """The fewest for each sum of 0 to top: in each round what one more coin reaches."""
    fewest = {0: 0}
    reached = [0]
    coins = 0
    while reached:
        coins += 1
        further = {total + worth for total in reached for worth in kinds if total + worth <= top}
        reached = sorted(total for total in further if total not in fewest)
        for total in reached:
            fewest[total] = coins
    return [fewest[total] for total in range(top + 1)]


def ways_with(kinds, total, coins):
    """All ways that make total with just so many coins, those with most of the greater kinds first."""
    if total < coins or total > coins * kinds[-1]:
        return []
    if len(kinds) == 1:
        return [(total,)]
    found = []
    for taken in range(min(coins, total // kinds[-1]), -1, -1):
        for way in ways_with(kinds[:-1], total - taken * kinds[-1], coins - taken):
            found.append(way + (taken,))
    return found


def worse_sums(kinds, top):
    fewest = fewest_by_rounds(kinds, top)
    return [total for total in range(top + 1) if sum(take_greatest_first(kinds, total)) > fewest[total]]


def edge(kinds):
    return 2 if kinds == [1] else sum(kinds[-2:])


class Model:
    """The ten calls by the words of the document."""

    def __init__(self):
        self.kinds = None

    def answer(self, name, number=0):
        if name == "begin":
            self.kinds = [1]
            return [0]
        if self.kinds is None:
            return [-11]
        if name in ("kind", "drop"):
            return [self.change(name, number)]
        if name in ("always", "least"):
            return self.tell_always(name)
        limit = {"how": 300, "ways": 60}.get(name, 1000)
        return [-22] if number > limit else self.tell_sum(name, number)

    def change(self, name, worth):
        if name == "kind":
            if not 2 <= worth <= 100:
                return -22
            if worth in self.kinds:
                return -17
            if len(self.kinds) == 6:
                return -28
            self.kinds = sorted(self.kinds + [worth])
        else:
            if worth not in self.kinds:
                return -2
            if worth == 1:
                return -22
            self.kinds = [other for other in self.kinds if other != worth]
        return len(self.kinds)

    def tell_always(self, name):
        found = worse_sums(self.kinds, edge(self.kinds))
        if name == "always":
            return [0 if found else 1, edge(self.kinds)]
        if not found:
            return [-33]
        return [found[0], fewest_by_rounds(self.kinds, found[0])[-1], sum(take_greatest_first(self.kinds, found[0]))]

    def tell_sum(self, name, total):
        fewest = fewest_by_rounds(self.kinds, total)[total]
        greedy = take_greatest_first(self.kinds, total)
        if name == "fewest":
            return [fewest]
        if name == "greedy":
            return [sum(greedy)] + greedy
        if name == "worse":
            return [sum(greedy) - fewest]
        found = ways_with(self.kinds, total, fewest)
        if name == "ways":
            return [len(found)]
        return [fewest] + list(found[0])
