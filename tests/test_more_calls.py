"""bad, most, farthest, plus, without, best, steps, kinds, sums at ordinary inputs and at the document's edges."""

import unittest

from fewestcoins.purse import answers
from plain import ask_of, edge, worse_sums

# begin, kind 3, kind 4, and what these answer.
MADE = [0, 1, 3, 1, 4]
MADE_TOLD = [1, 0, 1, 2, 1, 3]

WORSE_AT_ONE_SUM_UP_TO_THE_EDGE = {
    (1, 3, 4): 6,
    (1, 4, 5): 8,
    (1, 4, 9): 12,
    (1, 5, 16): 20,
    (1, 2, 5, 7): 10,
    (1, 2, 7, 16): 21,
    (1, 99, 100): 198,
    (1, 2, 3, 4, 6, 7): 12,
}


class WholeLists(unittest.TestCase):
    """The list that is given back, number by number."""

    def assert_told(self, calls, told):
        self.assertEqual(answers(MADE + calls), MADE_TOLD + told)

    def test_bad(self):
        self.assert_told([10, 15], [4, 3, 6, 10, 14])
        self.assert_told([10, 5], [1, 0])

    def test_most(self):
        self.assert_told([11, 20], [2, 17, 5])

    def test_farthest(self):
        self.assert_told([12, 2], [1, 8])

    def test_plus(self):
        self.assert_told([13, 2], [2, 1, 0])
        self.assert_told([13, 5], [2, 0, 0])

    def test_without(self):
        self.assert_told([14, 3], [2, 1, 0])

    def test_best(self):
        self.assert_told([15, 10], [3, 5, 16, 19])

    def test_steps(self):
        self.assert_told([16], [1, 0])
        self.assertEqual(answers([0, 1, 3, 1, 6, 16]), [1, 0, 1, 2, 1, 3, 1, 1])

    def test_kinds(self):
        self.assert_told([17], [4, 3, 1, 3, 4])

    def test_sums(self):
        self.assert_told([18, 6], [2, 9, 10])

    def test_all_nine_behind_one_another(self):
        self.assert_told([10, 7, 11, 7, 12, 3, 13, 2, 14, 4, 15, 7, 16, 17, 18, 7],
                         [2, 1, 6, 2, 2, 2, 1, 12, 2, 1, 0, 2, 1, 0, 3, 2, 10, 11, 1, 0, 4, 3, 1, 3, 4, 2, 11, 12])

    def test_whole_numbers_are_never_true_or_false(self):
        for made in ([0], MADE, [0, 1, 5, 1, 10]):
            calls = made + [10, 30, 11, 30, 12, 3, 13, 2, 14, 5, 14, 3, 15, 10, 15, 2, 16, 17, 18, 0, 18, 30]
            for number in answers(calls):
                self.assertIs(type(number), int)


class KindsAndSteps(unittest.TestCase):

    def test_kinds_rise_in_whatever_order_they_came(self):
        calls = [("kind", 50), ("kind", 2), ("kind", 100), ("kind", 10), ("kind", 5), ("kinds",), ("drop", 10),
                 ("kinds",), ("drop", 100), ("drop", 2), ("kinds",), ("kind", 3), ("kinds",), ("begin",), ("kinds",)]
        told = ask_of([1], calls)
        self.assertEqual(told, [[2], [3], [4], [5], [6], [6, 1, 2, 5, 10, 50, 100], [5], [5, 1, 2, 5, 50, 100], [4],
                                [3], [3, 1, 5, 50], [4], [4, 1, 3, 5, 50], [0], [1, 1]])

    def test_1_alone_and_two_kinds_are_in_steps(self):
        self.assertEqual(ask_of([1], [("steps",)]), [[1]])
        for worth in (2, 3, 7, 99, 100):
            self.assertEqual(ask_of([1, worth], [("steps",)]), [[1]])

    def test_steps(self):
        for kinds in ([1, 2, 4, 8, 16, 32], [1, 3, 6, 12, 96], [1, 5, 10, 50, 100], [1, 2, 6, 12, 36, 72]):
            self.assertEqual(ask_of(kinds, [("steps",)]), [[1]], kinds)

    def test_no_steps(self):
        # What fails is the last pair, the first pair behind 1, one between; in the last one only 10 and 25 do.
        for kinds in ([1, 2, 4, 8, 12], [1, 2, 3, 6, 12], [1, 3, 6, 9, 18], [1, 2, 4, 6, 24], [1, 5, 10, 25, 50, 100]):
            self.assertEqual(ask_of(kinds, [("steps",)]), [[0]], kinds)

    def test_steps_go_by_the_kinds_as_they_are(self):
        calls = [("steps",), ("kind", 24), ("steps",), ("drop", 25), ("steps",), ("drop", 5), ("drop", 10), ("steps",)]
        self.assertEqual(ask_of([1, 5, 25], calls + [("kind", 10), ("steps",)]),
                         [[1], [4], [0], [3], [0], [2], [-2], [1], [3], [0]])


class Bad(unittest.TestCase):

    def test_at_one_sum_alone_of_those_up_to_the_edge(self):
        for kinds, total in WORSE_AT_ONE_SUM_UP_TO_THE_EDGE.items():
            told = ask_of(kinds, [("bad", total - 1), ("bad", total), ("bad", edge(kinds)), ("least",)])
            self.assertEqual(told[:3], [[0], [1, total], [1, total]], kinds)
            self.assertEqual(told[3][0], total)

    def test_goes_on_beyond_the_edge(self):
        # What is worse stays so with one coin of the greatest kind more.
        self.assertEqual(ask_of([1, 3, 4], [("bad", 200)]), [[49] + list(range(6, 201, 4))])
        self.assertEqual(ask_of([1, 3, 4], [("bad", 198), ("bad", 197)]),
                         [[49] + list(range(6, 199, 4)), [48] + list(range(6, 195, 4))])

    def test_several_below_the_edge(self):
        self.assertEqual(ask_of([1, 10, 25], [("bad", 29), ("bad", 30), ("bad", 35)]),
                         [[0], [1, 30], [5, 30, 31, 32, 33, 34]])

    def test_none(self):
        for kinds in ([1], [1, 7], [1, 100], [1, 2, 4, 8, 16, 32], [1, 2, 5, 10, 20, 50], [1, 2, 3, 4, 5, 6]):
            self.assertEqual(ask_of(kinds, [("bad", 0), ("bad", 1), ("bad", 200)]), [[0]] * 3, kinds)

    def test_the_sum_of_0(self):
        self.assertEqual(ask_of([1, 3, 4], [("bad", 0)]), [[0]])

    def test_the_greatest_kinds_at_the_greatest_sum(self):
        self.assertEqual(ask_of([1, 99, 100], [("bad", 200)]), [[1, 198]])
        self.assertEqual(ask_of([1, 98, 99], [("bad", 200)]), [[1, 196]])
        self.assertEqual(ask_of([1, 2, 3, 100], [("bad", 200)]), [[0]])


class PlusAndWithout(unittest.TestCase):

    def test_a_kind_more_makes_it_worse(self):
        self.assertEqual(ask_of([1, 3], [("plus", 4)]), [[0, 1]])
        self.assertEqual(ask_of([1, 7], [("plus", 10), ("plus", 14)]), [[0, 1], [1, 1]])
        self.assertEqual(ask_of([1, 5, 10, 25], [("plus", 24), ("plus", 50)]), [[0, 1], [1, 1]])

    def test_a_kind_more_makes_it_always_fewest(self):
        self.assertEqual(ask_of([1, 3, 4], [("plus", 2)]), [[1, 0]])
        self.assertEqual(ask_of([1, 10, 25], [("plus", 5)]), [[1, 0]])

    def test_one_less_makes_it_always_fewest(self):
        self.assertEqual(ask_of([1, 3, 4], [("without", 3), ("without", 4)]), [[1, 0], [1, 0]])
        self.assertEqual(ask_of([1, 5, 10, 24, 25], [("without", 24), ("without", 10)]), [[1, 0], [0, 0]])
        self.assertEqual(ask_of([1, 3, 4, 9], [("without", 3), ("without", 4), ("without", 9)]),
                         [[0, 0], [1, 0], [0, 0]])

    def test_one_less_makes_it_worse(self):
        self.assertEqual(ask_of([1, 5, 10, 25], [("without", 5), ("without", 10), ("without", 25)]),
                         [[0, 1], [1, 1], [1, 1]])

    def test_1_alone(self):
        self.assertEqual(ask_of([1], [("plus", worth) for worth in range(2, 101)]), [[1, 1]] * 99)

    def test_two_kinds(self):
        for worth in (2, 50, 100):
            self.assertEqual(ask_of([1, worth], [("without", worth)]), [[1, 1]])
        told = ask_of([1, 3], [("plus", worth) for worth in (2, 4, 5, 6, 7, 8, 9)])
        self.assertEqual(told, [[1, 1], [0, 1], [1, 1], [1, 1], [1, 1], [1, 1], [1, 1]])

    def test_the_least_and_the_greatest_worth(self):
        self.assertEqual(ask_of([1, 50], [("plus", 2), ("plus", 100), ("plus", 98)]), [[1, 1], [1, 1], [0, 1]])
        self.assertEqual(ask_of([1, 2, 50, 100], [("without", 2), ("without", 100)]), [[1, 1], [1, 1]])
        self.assertEqual(ask_of([1, 99], [("plus", 100), ("plus", 98)]), [[0, 1], [0, 1]])

    def test_plus_where_there_are_six_kinds(self):
        self.assertEqual(ask_of([1, 2, 3, 4, 5, 6], [("plus", 7), ("plus", 100), ("kind", 7), ("kinds",)]),
                         [[1, 1], [1, 1], [-28], [6, 1, 2, 3, 4, 5, 6]])
        self.assertEqual(ask_of([1, 5, 10, 25, 50, 100], [("plus", 24), ("plus", 2), ("plus", 20)]),
                         [[0, 1], [1, 1], [0, 1]])
        # With the seventh kind of 2 it would be always fewest.
        self.assertEqual(ask_of([1, 3, 4, 8, 16, 32], [("plus", 2), ("plus", 64)]), [[1, 0], [0, 0]])

    def test_without_where_there_are_six_kinds(self):
        self.assertEqual(ask_of([1, 2, 3, 4, 5, 6], [("without", worth) for worth in (2, 3, 4, 5, 6)]),
                         [[0, 1], [0, 1], [0, 1], [1, 1], [1, 1]])

    def test_they_tell_what_comes_of_kind_and_drop(self):
        told = ask_of([1, 5, 10, 25], [("plus", 24), ("kind", 24), ("always",), ("without", 24), ("drop", 24),
                                       ("always",), ("without", 5), ("drop", 5), ("always",)])
        self.assertEqual(told, [[0, 1], [5], [0, 49], [1, 0], [4], [1, 35], [0, 1], [3], [0, 35]])


class Most(unittest.TestCase):

    def test_the_first_of_several(self):
        # The fewest for 0 to 7 are 0 1 2 1 1 2 2 2.
        self.assertEqual(ask_of([1, 3, 4], [("most", total) for total in range(8)]),
                         [[0, 0], [1, 1], [2, 2], [2, 2], [2, 2], [2, 2], [2, 2], [2, 2]])
        self.assertEqual(ask_of([1, 2, 3, 4, 5, 6], [("most", 6), ("most", 7), ("most", 12), ("most", 13)]),
                         [[1, 1], [7, 2], [7, 2], [13, 3]])

    def test_the_last_sum_itself(self):
        self.assertEqual(ask_of([1, 7], [("most", 6), ("most", 12), ("most", 13), ("most", 20)]),
                         [[6, 6], [6, 6], [13, 7], [20, 8]])

    def test_the_sum_of_0(self):
        for kinds in ([1], [1, 2], [1, 3, 4], [1, 2, 3, 4, 5, 100]):
            self.assertEqual(ask_of(kinds, [("most", 0), ("most", 1)]), [[0, 0], [1, 1]])

    def test_1_alone(self):
        self.assertEqual(ask_of([1], [("most", 17), ("most", 1000)]), [[17, 17], [1000, 1000]])

    def test_sums_of_1000(self):
        self.assertEqual(ask_of([1, 100], [("most", 999), ("most", 1000)]), [[999, 108], [999, 108]])
        self.assertEqual(ask_of([1, 8], [("most", 999), ("most", 1000)]), [[999, 131], [999, 131]])
        self.assertEqual(ask_of([1, 7], [("most", 999), ("most", 1000)]), [[993, 147], [1000, 148]])
        self.assertEqual(ask_of([1, 99, 100], [("most", 1000)]), [[98, 98]])
        self.assertEqual(ask_of([1, 5, 10, 25, 50, 100], [("most", 1000)]), [[994, 17]])


class Farthest(unittest.TestCase):

    def test_1_alone(self):
        self.assertEqual(ask_of([1], [("farthest", coins) for coins in range(1, 21)]), [[n] for n in range(1, 21)])

    def test_with_one_coin(self):
        self.assertEqual(ask_of([1, 3, 4], [("farthest", 1)]), [[1]])
        self.assertEqual(ask_of([1, 2, 3, 4, 5, 6], [("farthest", 1)]), [[6]])
        self.assertEqual(ask_of([1, 2, 3, 5, 6, 7], [("farthest", 1)]), [[3]])

    def test_goes_up_to_the_first_that_takes_more_and_no_further(self):
        # With 1 and 7 the sum of 7 takes one coin, but that of 6 takes six.
        self.assertEqual(ask_of([1, 7], [("farthest", coins) for coins in (1, 5, 6, 7)]), [[1], [5], [12], [19]])
        self.assertEqual(ask_of([1, 99, 100], [("farthest", 20)]), [[20]])

    def test_twenty_coins(self):
        self.assertEqual(ask_of([1, 3, 4], [("farthest", 20)]), [[80]])
        self.assertEqual(ask_of([1, 2, 4, 8, 16, 32], [("farthest", 20)]), [[542]])

    def test_1000_at_most(self):
        self.assertEqual(ask_of([1, 5, 10, 25, 50, 100], [("farthest", 14), ("farthest", 16), ("farthest", 17),
                                                          ("farthest", 20)]), [[793], [993], [1000], [1000]])

    def test_just_below_at_and_just_above_1000(self):
        # The first sums that take more are 1000, 1001 and 1002.
        self.assertEqual(ask_of([1, 15, 51, 67], [("farthest", 19), ("fewest", 1000)]), [[999], [20]])
        self.assertEqual(ask_of([1, 6, 69, 75], [("farthest", 18)]), [[1000]])
        self.assertEqual(ask_of([1, 5, 8, 50, 70], [("farthest", 17)]), [[1000]])


class Sums(unittest.TestCase):

    def test_1_alone(self):
        self.assertEqual(ask_of([1], [("sums", 0), ("sums", 1), ("sums", 10), ("sums", 1000)]),
                         [[0, 0], [1, 1], [55, 55], [500500, 500500]])

    def test_1_3_4(self):
        # The fewest for 0 to 7 are 0 1 2 1 1 2 2 2; the greatest first takes 3 for 6.
        self.assertEqual(ask_of([1, 3, 4], [("sums", total) for total in range(8)]),
                         [[0, 0], [1, 1], [3, 3], [4, 4], [5, 5], [7, 7], [9, 10], [11, 12]])

    def test_two_kinds(self):
        self.assertEqual(ask_of([1, 7], [("sums", 6), ("sums", 7), ("sums", 20)]), [[21, 21], [22, 22], [84, 84]])

    def test_sums_of_1000(self):
        self.assertEqual(ask_of([1, 3, 4], [("sums", 999), ("sums", 1000)]), [[125251, 125500], [125501, 125750]])
        self.assertEqual(ask_of([1, 100], [("sums", 1000)]), [[10 * 4950 + 100 * 45 + 10] * 2])
        self.assertEqual(ask_of([1, 99, 100], [("sums", 1000)]), [[48785, 53030]])


class Best(unittest.TestCase):

    def test_1_alone(self):
        self.assertEqual(ask_of([1], [("best", 2), ("best", 3), ("best", 60)]), [[2, 2, 3], [2, 4, 6], [8, 409, 1830]])

    def test_the_least_of_alike_kinds(self):
        # By 2 they take 0 1 1 2 2, by 3 they take 0 1 2 1 2; up to 5 by 4 as many as well.
        self.assertEqual(ask_of([1], [("best", 4), ("best", 5)]), [[2, 6, 10], [2, 9, 15]])
        # By 2, by 5 and by 6 one sum takes one coin less.
        self.assertEqual(ask_of([1, 3, 4], [("best", 6)]), [[2, 8, 9]])

    def test_not_the_least_where_a_greater_kind_does_better(self):
        self.assertEqual(ask_of([1, 3, 4], [("best", 10)]), [[5, 16, 19]])
        self.assertEqual(ask_of([1, 7], [("best", 20)]), [[5, 52, 84]])

    def test_1_where_by_none_they_take_fewer(self):
        for top in range(2, 7):
            kinds = list(range(1, top + 1))
            self.assertEqual(ask_of(kinds, [("best", top)]), [[1, top, top]])
        self.assertEqual(ask_of([1, 2, 3, 4, 5, 6], [("best", top) for top in range(2, 7)]),
                         [[1, top, top] for top in range(2, 7)])

    def test_the_last_kind_itself(self):
        self.assertEqual(ask_of([1, 2, 3, 4, 5, 6], [("best", 7)]), [[7, 7, 8]])
        self.assertEqual(ask_of([1, 2, 3, 4], [("best", 5)]), [[5, 5, 6]])

    def test_kinds_that_are_there_already_are_passed_over(self):
        self.assertEqual(ask_of([1, 2], [("best", 2), ("best", 3), ("best", 4)]), [[1, 2, 2], [3, 3, 4], [3, 5, 6]])
        # 8 is best where 1 is alone; where it is there another one is.
        self.assertEqual(ask_of([1], [("best", 60)])[0][0], 8)
        told = ask_of([1, 8], [("best", 60)])[0]
        self.assertNotIn(told[0], (1, 8))
        self.assertEqual(told[2], 409)

    def test_kinds_above_the_sums_make_no_difference(self):
        told = ask_of([1], [("best", 10), ("best", 60)])
        self.assertEqual(ask_of([1, 99, 100], [("best", 10), ("best", 60)]), told)

    def test_where_there_are_six_kinds(self):
        self.assertEqual(ask_of([1, 2, 3, 4, 5, 6], [("best", 60), ("kind", 18), ("kinds",)]),
                         [[18, 180, 330], [-28], [6, 1, 2, 3, 4, 5, 6]])
        self.assertEqual(ask_of([1, 2, 4, 8, 16, 32], [("best", 60)]), [[21, 149, 176]])

    def test_it_tells_what_comes_of_the_kind(self):
        worth, with_it, now = ask_of([1, 5, 10, 25], [("best", 60)])[0]
        told = ask_of([1, 5, 10, 25], [("sums", 60), ("kind", worth), ("sums", 60)])
        self.assertEqual([told[0][0], told[2][0]], [now, with_it])


class TheEdgeItself(unittest.TestCase):

    def test_it_is_never_bad(self):
        for kinds in ([1], [1, 2], [1, 100], [1, 3, 4], [1, 99, 100], [1, 2, 3, 4, 6, 7]):
            told = ask_of(kinds, [("bad", edge(kinds))])[0]
            self.assertNotIn(edge(kinds), told[1:], kinds)
            self.assertEqual(told[1:], worse_sums(kinds, edge(kinds) - 1), kinds)

    def test_a_sum_just_below_it_counts_for_plus_and_without(self):
        # With 1, 99 and 100 the one worse sum below the edge of 199 is 198.
        self.assertEqual(ask_of([1, 99], [("plus", 100)]), [[0, 1]])
        self.assertEqual(ask_of([1, 2, 99, 100], [("without", 2)]), [[0, 0]])


if __name__ == "__main__":
    unittest.main()
