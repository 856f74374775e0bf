"""Lists of many calls in any order; what is handed in, and that nothing is kept."""

import random
import unittest

from fewestcoins.purse import answers
from plain import ALONE, CODES, GREATEST_ARGUMENT, Model, flat, split

EDGE_NUMBERS = {
    "kind": (0, 1, 2, 100, 101, GREATEST_ARGUMENT),
    "drop": (0, 1, 2, 100, 101, GREATEST_ARGUMENT),
    "fewest": (0, 1, 1000, 1001, GREATEST_ARGUMENT),
    "greedy": (0, 1, 1000, 1001, GREATEST_ARGUMENT),
    "worse": (0, 1, 1000, 1001, GREATEST_ARGUMENT),
    "how": (0, 1, 300, 301, GREATEST_ARGUMENT),
    "ways": (0, 1, 60, 61, GREATEST_ARGUMENT),
}

ORDINARY_TOP = {"kind": 12, "drop": 12, "fewest": 200, "greedy": 200, "worse": 200, "how": 120, "ways": 60}


def chosen_call(source):
    name = source.choice(sorted(CODES) + ["kind"] * 4)
    if name == "begin" and source.randrange(4):
        name = "kind"
    if name in ALONE:
        return (name,)
    if source.randrange(5) == 0:
        return (name, source.choice(EDGE_NUMBERS[name]))
    return (name, source.randint(0, ORDINARY_TOP[name]))


def chosen_calls(seed, size):
    source = random.Random(seed)
    first = [("begin",)] if source.randrange(3) else []
    return (first + [chosen_call(source) for _ in range(size)])[:size]


class ManyCalls(unittest.TestCase):

    def assert_as_modelled(self, calls):
        model = Model()
        told = split(answers(flat(calls)))
        self.assertEqual(len(told), len(calls))
        for place, call in enumerate(calls):
            self.assertEqual(told[place], model.answer(*call), (calls[:place + 1]))

    def test_short_lists(self):
        for seed in range(300):
            self.assert_as_modelled(chosen_calls(seed, 1 + seed % 12))

    def test_lists_of_400_calls(self):
        for seed in range(20):
            self.assert_as_modelled(chosen_calls(1000 + seed, 400))

    def test_400_calls_of_the_greatest_sum_that_each_takes(self):
        made = [0, 1, 7, 1, 11, 1, 13, 1, 17, 1, 100]
        for name, greatest in (("fewest", 1000), ("greedy", 1000), ("worse", 1000), ("how", 300), ("ways", 60)):
            calls = made + [CODES[name], greatest] * 394
            told = split(answers(calls))
            self.assertEqual(len(told), 400)
            model = Model()
            model.kinds = [1, 7, 11, 13, 17, 100]
            self.assertEqual(told[6:], [model.answer(name, greatest)] * 394)

    def test_400_begins(self):
        self.assertEqual(answers([0] * 400), [1, 0] * 400)

    def test_400_calls_before_any_begin(self):
        self.assertEqual(answers([8] * 400), [1, -11] * 400)


class HandedIn(unittest.TestCase):

    def test_the_list_is_the_same_afterwards(self):
        for seed in range(30):
            calls = flat(chosen_calls(seed, 40))
            copy = list(calls)
            given = answers(calls)
            self.assertEqual(calls, copy)
            self.assertIsNot(given, calls)

    def test_the_list_is_not_changed_for_a_while_either(self):
        class Unchanging(list):
            def refuse(self, *args, **kwargs):
                raise AssertionError("the list was changed")
            append = extend = insert = pop = remove = clear = sort = reverse = refuse
            __setitem__ = __delitem__ = __iadd__ = __imul__ = refuse

        calls = flat(chosen_calls(5, 60))
        self.assertEqual(answers(Unchanging(calls)), answers(calls))

    def test_a_second_time_gives_the_same(self):
        for seed in range(30):
            calls = flat(chosen_calls(seed, 40))
            first = answers(calls)
            kept = list(first)
            self.assertEqual(answers(calls), kept)
            first.clear()
            self.assertEqual(answers(calls), kept)

    def test_nothing_is_kept_for_another_list(self):
        self.assertEqual(answers([0, 1, 3, 1, 4, 4, 6])[-5:], [4, 3, 2, 0, 1])
        self.assertEqual(answers([4, 6]), [1, -11])
        self.assertEqual(answers([0, 4, 6]), [1, 0, 2, 6, 6])


if __name__ == "__main__":
    unittest.main()
