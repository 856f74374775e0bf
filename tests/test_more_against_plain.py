"""The answers of bad, most, farthest, plus, without, best, steps and sums held against plain counting."""

import unittest

from choice import chosen_kinds, small_kinds
from plain import (LIMITS, Model, all_ways, always_fewest, ask_of, best_kind, edge, farthest_sum, fewest_by_rounds,
                   in_steps, take_greatest_first, together, worse_sums)


def fewest_of_all_ways(kinds, top):
    return [min(sum(way) for way in all_ways(kinds, total)) for total in range(top + 1)]


class AllWays(unittest.TestCase):
    """Every way to make each sum is gone through."""

    def test_small_kinds(self):
        for kinds in small_kinds():
            fewest = fewest_of_all_ways(kinds, 18)
            greedy = [sum(take_greatest_first(kinds, total)) for total in range(19)]
            found = [total for total in range(19) if greedy[total] > fewest[total]]
            told = ask_of(kinds, [("bad", 18), ("most", 18), ("sums", 18)])
            self.assertEqual(told[0], [len(found)] + found, kinds)
            self.assertEqual(told[1], [min(n for n in range(19) if fewest[n] == max(fewest)), max(fewest)], kinds)
            self.assertEqual(told[2], [sum(fewest), sum(greedy)], kinds)

    def test_best_of_small_kinds(self):
        for kinds in small_kinds()[::3]:
            now = sum(fewest_of_all_ways(kinds, 10))
            best = [1, now, now]
            for worth in range(2, 11):
                if worth not in kinds:
                    coins = sum(fewest_of_all_ways(sorted(kinds + [worth]), 10))
                    if coins < best[1]:
                        best = [worth, coins, now]
            self.assertEqual(ask_of(kinds, [("best", 10)]), [best], kinds)


class ByTheWords(unittest.TestCase):

    def test_bad(self):
        for kinds in small_kinds()[::2] + chosen_kinds(100):
            tops = (0, 1, 6, 57, edge(kinds) - 1, edge(kinds), 199, 200)
            found = worse_sums(kinds, 200)
            for top, told in zip(tops, ask_of(kinds, [("bad", top) for top in tops])):
                self.assertEqual(told[1:], [total for total in found if total <= top], (kinds, top))
                self.assertEqual(told[0], len(told) - 1)

    def test_most_and_sums(self):
        for kinds in small_kinds()[::9] + chosen_kinds(40):
            fewest = fewest_by_rounds(kinds, 1000)
            greedy = [sum(take_greatest_first(kinds, total)) for total in range(1001)]
            for top in (0, 1, 2, 3, 50, edge(kinds), 499, 999, 1000):
                most = max(fewest[:top + 1])
                first = [total for total in range(top + 1) if fewest[total] == most][0]
                told = ask_of(kinds, [("most", top), ("sums", top)])
                self.assertEqual(told, [[first, most], [sum(fewest[:top + 1]), sum(greedy[:top + 1])]], (kinds, top))

    def test_farthest(self):
        for kinds in small_kinds()[::20] + chosen_kinds(25):
            told = ask_of(kinds, [("farthest", coins) for coins in range(1, 21)])
            self.assertEqual(told, [[farthest_sum(kinds, coins)] for coins in range(1, 21)], kinds)

    def test_plus_and_without(self):
        for kinds in small_kinds()[::2] + chosen_kinds(60):
            now = always_fewest(kinds)
            worths = [worth for worth in (2, 3, 5, 8, 10, 11, 49, 50, 99, 100) if worth not in kinds]
            told = ask_of(kinds, [("plus", worth) for worth in worths])
            self.assertEqual(told, [[always_fewest(sorted(kinds + [worth])), now] for worth in worths], kinds)
            told = ask_of(kinds, [("without", worth) for worth in kinds[1:]])
            self.assertEqual(told, [[always_fewest([other for other in kinds if other != worth]), now]
                                    for worth in kinds[1:]], kinds)

    def test_best(self):
        for kinds in small_kinds()[::7] + chosen_kinds(25):
            tops = (2, 3, 4, 5, 6, 7, 11, 24, 59, 60)
            told = ask_of(kinds, [("best", top) for top in tops])
            self.assertEqual(told, [best_kind(kinds, top) for top in tops], kinds)

    def test_best_up_to_each_number(self):
        for kinds in ([1], [1, 2], [1, 3, 4], [1, 2, 3, 4, 5, 6], [1, 4, 9, 16, 25, 36]):
            told = ask_of(kinds, [("best", top) for top in range(2, 61)])
            self.assertEqual(told, [best_kind(kinds, top) for top in range(2, 61)], kinds)

    def test_steps_and_kinds(self):
        seen = 0
        for kinds in small_kinds() + chosen_kinds(150) + stepped_kinds():
            self.assertEqual(ask_of(kinds, [("steps",), ("kinds",)]), [[in_steps(kinds)], [len(kinds)] + kinds])
            seen += in_steps(kinds)
        self.assertGreater(seen, 60)


def stepped_kinds():
    return [[1, first, first * second, first * second * third]
            for first in range(2, 6) for second in range(2, 5) for third in range(2, 5)
            if first * second * third <= 100]


class WhatHolds(unittest.TestCase):

    def test_a_no_sum_takes_fewer_by_the_greatest_first(self):
        for kinds in small_kinds()[::4] + chosen_kinds(60):
            for top in (0, 1, 30, 1000):
                fewest, greedy = ask_of(kinds, [("sums", top)])[0]
                self.assertLessEqual(fewest, greedy)

    def test_b_bad_begins_with_the_least_and_is_empty_exactly_if_always_fewest(self):
        # The edge is 199 at most, so that all sums up to it are among those of bad.
        for kinds in small_kinds() + chosen_kinds(150):
            bad, always, least, sums = ask_of(kinds, [("bad", 200), ("always",), ("least",), ("sums", 1000)])
            self.assertEqual(always[0], 1 if bad == [0] else 0, kinds)
            self.assertEqual(always[0], 1 if sums[0] == sums[1] else 0, kinds)
            if bad != [0]:
                self.assertEqual(bad[1], least[0], kinds)
                self.assertTrue(kinds[2] + 1 < bad[1] < always[1], kinds)

    def test_c_in_steps_and_with_two_kinds_it_is_always_fewest(self):
        for kinds in stepped_kinds() + [[1]] + [[1, worth] for worth in range(2, 101)]:
            told = ask_of(kinds, [("steps",), ("always",), ("bad", 200)])
            self.assertEqual(told, [[1], [1, edge(kinds)], [0]], kinds)

    def test_c_of_whatever_kinds_that_answer_steps(self):
        for kinds in small_kinds() + chosen_kinds(150):
            steps, always = ask_of(kinds, [("steps",), ("always",)])
            self.assertLessEqual(steps[0], always[0], kinds)

    def test_d_with_a_kind_more_the_sums_take_no_more(self):
        for kinds in chosen_kinds(40):
            for top in (2, 30, 60):
                best, sums = ask_of(kinds, [("best", top), ("sums", top)])
                self.assertLessEqual(best[1], best[2])
                self.assertEqual(best[2], sums[0])
                self.assertEqual(best[0] == 1, best[1] == best[2])
                self.assertEqual(best[1], together(sorted(set(kinds + [best[0]])), top))

    def test_d_two_sums_together_take_no_more_than_each_by_itself(self):
        for kinds in chosen_kinds(15):
            fars = [told[0] for told in ask_of(kinds, [("farthest", coins) for coins in range(1, 21)])]
            fewest = [told[0] for told in ask_of(kinds, [("fewest", total) for total in range(0, 391)])]
            self.assertEqual(fars, sorted(fars))
            for one in range(0, 196, 5):
                for other in range(0, 196, 3):
                    self.assertLessEqual(fewest[one + other], fewest[one] + fewest[other], (kinds, one, other))

    def test_e_up_to_the_farthest_each_takes_so_many_and_the_next_one_more(self):
        for kinds in small_kinds()[::9] + chosen_kinds(60):
            for coins in (1, 2, 5, 13, 19, 20):
                far = ask_of(kinds, [("farthest", coins)])[0][0]
                self.assertTrue(1 <= far <= 1000)
                self.assertLessEqual(ask_of(kinds, [("most", far)])[0][1], coins)
                if far < 1000:
                    self.assertEqual(ask_of(kinds, [("most", far + 1)])[0], [far + 1, coins + 1])

    def test_f_what_is_refused_changes_nothing(self):
        refused = [("kind", 1), ("kind", 101), ("drop", 1), ("drop", 101), ("plus", 1), ("plus", 101), ("without", 1),
                   ("without", 101)]
        refused += [(name, greatest + 1) for name, (_, greatest) in LIMITS.items()]
        for kinds in chosen_kinds(40):
            model = Model()
            model.kinds = list(kinds)
            told = ask_of(kinds, refused + [("kinds",)])
            self.assertEqual(told, [model.answer(*call) for call in refused] + [[len(kinds)] + kinds])
            self.assertTrue(all(len(one) == 1 and one[0] < 0 for one in told[:-1]))


if __name__ == "__main__":
    unittest.main()
