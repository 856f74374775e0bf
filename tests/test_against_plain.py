"""The answers held against a plain count of all ways, and against the words of the document."""

import unittest

from choice import chosen_kinds, small_kinds
from plain import (all_ways, ask_of, edge, fewest_by_rounds, fewest_ways, most_of_greatest, take_greatest_first,
                   worse_sums)

FEW_KINDS_FAR_APART = ([1], [1, 2], [1, 100], [1, 50, 75], [1, 98, 99], [1, 99, 100], [1, 37, 61, 100])


class AllWays(unittest.TestCase):

    def assert_as_counted(self, kinds, total):
        found = fewest_ways(kinds, total)
        way = list(most_of_greatest(found))
        told = ask_of(kinds, [("fewest", total), ("how", total), ("ways", total)])
        self.assertEqual(told, [[sum(way)], [sum(way)] + way, [len(found)]], (kinds, total))

    def test_small_kinds(self):
        for kinds in small_kinds():
            for total in range(22):
                self.assert_as_counted(kinds, total)

    def test_kinds_from_all_over(self):
        for kinds in chosen_kinds(60):
            for total in (0, 1, 7, 23, 38, 49, 59, 60):
                self.assert_as_counted(kinds, total)

    def test_many_kinds_at_the_greatest_sum_of_ways(self):
        for kinds in ([1, 2, 3, 4, 5, 6], [1, 7, 11, 13, 17, 19], [1, 10, 20, 30, 40, 50], [1, 5, 6, 8, 9, 10]):
            for total in (57, 58, 59, 60):
                self.assert_as_counted(kinds, total)

    def test_greater_sums(self):
        for kinds in FEW_KINDS_FAR_APART:
            for total in (61, 99, 100, 148, 150, 198, 200, 299, 300):
                way = list(most_of_greatest(fewest_ways(kinds, total)))
                told = ask_of(kinds, [("fewest", total), ("how", total)])
                self.assertEqual(told, [[sum(way)], [sum(way)] + way], (kinds, total))
            for total in (301, 500, 777, 999, 1000):
                counted = min(sum(way) for way in all_ways(kinds, total))
                self.assertEqual(ask_of(kinds, [("fewest", total)]), [[counted]], (kinds, total))


class ByTheWords(unittest.TestCase):

    def test_greedy_and_worse(self):
        for kinds in small_kinds()[::5] + chosen_kinds(30):
            fewest = fewest_by_rounds(kinds, 1000)
            for total in list(range(0, 200, 13)) + [edge(kinds) - 1, edge(kinds), edge(kinds) + 1, 777, 999, 1000]:
                taken = take_greatest_first(kinds, total)
                told = ask_of(kinds, [("greedy", total), ("worse", total), ("fewest", total)])
                self.assertEqual(told, [[sum(taken)] + taken, [sum(taken) - fewest[total]], [fewest[total]]],
                                 (kinds, total))

    def test_always_and_least(self):
        for kinds in small_kinds() + chosen_kinds(150):
            always, least = ask_of(kinds, [("always",), ("least",)])
            # Sums far above the edge are looked at too: none of them may be worse where none up to it is.
            found = worse_sums(kinds, 3 * edge(kinds))
            self.assertEqual(always, [0 if found else 1, edge(kinds)], kinds)
            if not found:
                self.assertEqual(least, [-33], kinds)
                continue
            fewest = fewest_by_rounds(kinds, found[0])[-1]
            self.assertEqual(least, [found[0], fewest, sum(take_greatest_first(kinds, found[0]))], kinds)


class WhatHolds(unittest.TestCase):

    def test_ways_that_are_told_pay_the_sum(self):
        for kinds in chosen_kinds(40):
            for total in (0, 1, 59, 199, 300):
                fewest, greedy, how = ask_of(kinds, [("fewest", total), ("greedy", total), ("how", total)])
                for told in (greedy, how):
                    self.assertEqual(len(told), 1 + len(kinds))
                    self.assertEqual(told[0], sum(told[1:]))
                    self.assertEqual(total, sum(worth * taken for worth, taken in zip(kinds, told[1:])))
                self.assertEqual(how[0], fewest[0])
                self.assertGreaterEqual(greedy[0], fewest[0])

    def test_the_least_is_above_one_more_than_the_third_kind_and_below_the_edge(self):
        seen = 0
        for kinds in small_kinds() + chosen_kinds(150):
            (always, least) = ask_of(kinds, [("always",), ("least",)])
            if always[0] == 0:
                seen += 1
                self.assertTrue(kinds[2] + 1 < least[0] < always[1], kinds)
                self.assertLess(least[1], least[2])
        self.assertGreater(seen, 100)

    def test_in_steps_and_with_two_kinds_it_is_always_fewest(self):
        stepped = [[1, first, first * second, first * second * third]
                   for first in range(2, 6) for second in range(2, 5) for third in range(2, 5)
                   if first * second * third <= 100]
        for kinds in stepped + [[1, worth] for worth in range(2, 101)]:
            self.assertEqual(ask_of(kinds, [("always",), ("least",)]), [[1, edge(kinds)], [-33]], kinds)

    def test_two_sums_together_take_no_more_than_each_by_itself(self):
        for kinds in chosen_kinds(10):
            fewest = [told[0] for told in ask_of(kinds, [("fewest", total) for total in range(120)])]
            for one in range(60):
                for other in range(60):
                    self.assertLessEqual(fewest[one + other], fewest[one] + fewest[other])

    def test_with_a_kind_more_no_sum_takes_more(self):
        asked = [("fewest", total) for total in range(0, 1001, 10)]
        for kinds in chosen_kinds(20):
            for worth in (2, 37, 100):
                if worth in kinds or len(kinds) == 6:
                    continue
                before = ask_of(kinds, asked)
                after = ask_of(kinds, [("kind", worth)] + asked)[1:]
                self.assertTrue(all(more[0] <= less[0] for more, less in zip(after, before)), (kinds, worth))


if __name__ == "__main__":
    unittest.main()
