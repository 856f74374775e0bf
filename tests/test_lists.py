"""Lists of many calls in any order; what is handed in, and that nothing is kept."""

import random
import unittest

from fewestcoins.purse import answers
from plain import ALONE, CODES, GREATEST_ARGUMENT, LIMITS, Model, flat, split

TAKING_A_WORTH = ("kind", "drop", "plus", "without")

ORDINARY_TOP = {"fewest": 200, "greedy": 200, "worse": 200, "how": 120, "ways": 60, "bad": 120, "most": 200,
                "farthest": 20, "best": 30, "sums": 200}


def edge_numbers(name):
    least, greatest = (2, 100) if name in TAKING_A_WORTH else LIMITS[name]
    return (0, 1, least, least + 1, greatest, greatest + 1, GREATEST_ARGUMENT)


def chosen_call(source):
    name = source.choice(sorted(CODES) + ["kind"] * 5 + ["drop"])
    if name == "begin" and source.randrange(4):
        name = "kind"
    if name in ALONE:
        return (name,)
    if source.randrange(5) == 0:
        return (name, source.choice(edge_numbers(name)))
    return (name, source.randint(0, ORDINARY_TOP.get(name, 12)))


def chosen_calls(seed, size):
    source = random.Random(seed)
    first = [("begin",)] if source.randrange(3) else []
    return (first + [chosen_call(source) for _ in range(size)])[:size]


class ManyCalls(unittest.TestCase):

    def assert_same(self, told, expected):
        # One by one: to show how two long lists differ takes unittest minutes.
        self.assertEqual(len(told), len(expected))
        for place, number in enumerate(expected):
            self.assertEqual(told[place], number, place)

    def assert_as_modelled(self, calls):
        model = Model()
        told = split(answers(flat(calls)))
        self.assertEqual(len(told), len(calls))
        for place, call in enumerate(calls):
            self.assertEqual(told[place], model.answer(*call), (calls[:place + 1]))

    def test_short_lists(self):
        for seed in range(300):
            self.assert_as_modelled(chosen_calls(seed, 1 + seed % 12))

    def test_lists_of_400_calls(self):
        for seed in range(20):
            self.assert_as_modelled(chosen_calls(1000 + seed, 400))

    def test_lists_of_400_calls_hold_all_nineteen(self):
        for seed in range(20):
            self.assertEqual({call[0] for call in chosen_calls(1000 + seed, 400)}, set(CODES))

    def test_400_calls_of_the_greatest_number_that_each_takes(self):
        made = [0, 1, 7, 1, 11, 1, 13, 1, 17, 1, 100]
        for name, (_, greatest) in LIMITS.items():
            calls = made + [CODES[name], greatest] * 394
            told = split(answers(calls))
            self.assertEqual(len(told), 400)
            model = Model()
            model.kinds = [1, 7, 11, 13, 17, 100]
            self.assert_same(told[6:], [model.answer(name, greatest)] * 394)

    def test_400_calls_that_tell_what_would_be(self):
        model = Model()
        model.kinds = [1, 7, 11, 13, 17, 100]
        calls = [0, 1, 7, 1, 11, 1, 13, 1, 17, 1, 100] + [13, 99, 14, 7] * 197
        told = split(answers(calls))
        self.assert_same(told[6:], [model.answer("plus", 99), model.answer("without", 7)] * 197)

    def test_400_calls_of_steps_and_kinds(self):
        calls = [0, 1, 9, 1, 3] + [16, 17] * 198 + [16]
        self.assert_same(answers(calls), [1, 0, 1, 2, 1, 3] + [1, 1, 4, 3, 1, 3, 9] * 198 + [1, 1])

    def test_400_begins(self):
        self.assert_same(answers([0] * 400), [1, 0] * 400)

    def test_400_calls_before_any_begin(self):
        self.assert_same(answers([8] * 400), [1, -11] * 400)


class HandedIn(unittest.TestCase):

    def test_the_list_is_the_same_afterwards(self):
        for seed in range(30):
            calls = flat(chosen_calls(seed, 40))
            copy = list(calls)
            given = answers(calls)
            self.assertEqual(calls, copy)
            self.assertIsNot(given, calls)

    def test_the_list_is_not_changed_for_a_while_either(self):
        class Unchanging(list):
            def refuse(self, *args, **kwargs):
                raise AssertionError("the list was changed")
            append = extend = insert = pop = remove = clear = sort = reverse = refuse
            __setitem__ = __delitem__ = __iadd__ = __imul__ = refuse

        calls = flat(chosen_calls(5, 60))
        self.assertEqual(answers(Unchanging(calls)), answers(calls))

    def test_a_second_time_gives_the_same(self):
        for seed in range(30):
            calls = flat(chosen_calls(seed, 40))
            first = answers(calls)
            kept = list(first)
            self.assertEqual(answers(calls), kept)
            first.clear()
            self.assertEqual(answers(calls), kept)

    def test_nothing_is_kept_for_another_list(self):
        self.assertEqual(answers([0, 1, 3, 1, 4, 4, 6])[-5:], [4, 3, 2, 0, 1])
        self.assertEqual(answers([4, 6]), [1, -11])
        self.assertEqual(answers([0, 4, 6]), [1, 0, 2, 6, 6])
        self.assertEqual(answers([17]), [1, -11])
        self.assertEqual(answers([0, 17]), [1, 0, 2, 1, 1])


if __name__ == "__main__":
    unittest.main()
