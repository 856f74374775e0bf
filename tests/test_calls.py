"""Each call at ordinary inputs and at the edges that the document names."""

import unittest

from fewestcoins.purse import answers
from plain import ask, ask_of, edge, worse_sums


class WholeLists(unittest.TestCase):
    """The list that is given back, number by number."""

    def test_begin(self):
        self.assertEqual(answers([0]), [1, 0])

    def test_kind(self):
        self.assertEqual(answers([0, 1, 4, 1, 3]), [1, 0, 1, 2, 1, 3])

    def test_drop(self):
        self.assertEqual(answers([0, 1, 4, 1, 3, 2, 4, 2, 3]), [1, 0, 1, 2, 1, 3, 1, 2, 1, 1])

    def test_fewest(self):
        self.assertEqual(answers([0, 1, 3, 1, 4, 3, 6]), [1, 0, 1, 2, 1, 3, 1, 2])

    def test_greedy(self):
        self.assertEqual(answers([0, 1, 3, 1, 4, 4, 6]), [1, 0, 1, 2, 1, 3, 4, 3, 2, 0, 1])

    def test_how(self):
        self.assertEqual(answers([0, 1, 3, 1, 4, 5, 6]), [1, 0, 1, 2, 1, 3, 4, 2, 0, 2, 0])

    def test_ways(self):
        self.assertEqual(answers([0, 1, 3, 1, 4, 6, 6]), [1, 0, 1, 2, 1, 3, 1, 1])

    def test_worse(self):
        self.assertEqual(answers([0, 1, 3, 1, 4, 7, 6]), [1, 0, 1, 2, 1, 3, 1, 1])

    def test_always(self):
        self.assertEqual(answers([0, 1, 3, 1, 4, 8]), [1, 0, 1, 2, 1, 3, 2, 0, 7])
        self.assertEqual(answers([0, 1, 5, 1, 10, 8]), [1, 0, 1, 2, 1, 3, 2, 1, 15])

    def test_least(self):
        self.assertEqual(answers([0, 1, 3, 1, 4, 9]), [1, 0, 1, 2, 1, 3, 3, 6, 2, 3])

    def test_all_ten_behind_one_another(self):
        calls = [0, 1, 3, 1, 4, 3, 10, 4, 10, 5, 10, 6, 10, 7, 10, 8, 9, 2, 3, 8, 9]
        told = [1, 0, 1, 2, 1, 3, 1, 3, 4, 4, 2, 0, 2, 4, 3, 0, 2, 1, 1, 1, 1, 1, 2, 0, 7, 3, 6, 2, 3, 1, 2, 2, 1, 5,
                1, -33]
        self.assertEqual(answers(calls), told)

    def test_whole_numbers_are_never_true_or_false(self):
        for calls in ([8], [0], [0, 8], [0, 1, 3, 1, 4, 8, 9, 7, 5, 7, 6, 6, 0, 3, 0, 4, 0, 5, 0]):
            for number in answers(calls):
                self.assertIs(type(number), int)
        self.assertIs(type(answers([0])), list)


class Kinds(unittest.TestCase):

    def test_kinds_are_kept_rising_in_whatever_order_they_come(self):
        told = ask([("begin",), ("kind", 50), ("kind", 2), ("kind", 100), ("kind", 10), ("kind", 5), ("greedy", 168)])
        self.assertEqual(told, [[0], [2], [3], [4], [5], [6], [6, 1, 1, 1, 1, 1, 1]])

    def test_the_least_and_the_greatest_worth(self):
        self.assertEqual(ask([("begin",), ("kind", 2), ("kind", 100), ("greedy", 103)]), [[0], [2], [3], [3, 1, 1, 1]])

    def test_a_kind_that_was_dropped_is_gone_and_may_come_again(self):
        told = ask_of([1, 3, 4], [("drop", 3), ("how", 6), ("drop", 3), ("kind", 3), ("how", 6)])
        self.assertEqual(told, [[2], [3, 2, 1], [-2], [3], [2, 0, 2, 0]])

    def test_six_kinds_then_one_dropped_makes_room(self):
        told = ask_of([1, 2, 3, 4, 5, 6], [("kind", 7), ("drop", 2), ("kind", 7), ("kind", 8), ("how", 7)])
        self.assertEqual(told, [[-28], [5], [6], [-28], [1, 0, 0, 0, 0, 0, 1]])

    def test_a_second_begin_leaves_1_alone(self):
        told = ask_of([1, 3, 4], [("begin",), ("greedy", 6), ("how", 6), ("always",), ("drop", 3), ("kind", 3)])
        self.assertEqual(told, [[0], [6, 6], [6, 6], [1, 2], [-2], [2]])

    def test_a_second_begin_makes_room(self):
        told = ask_of([1, 2, 3, 4, 5, 6], [("begin",), ("kind", 7), ("greedy", 9)])
        self.assertEqual(told, [[0], [2], [3, 2, 1]])


class Sums(unittest.TestCase):

    def test_1_alone(self):
        told = ask_of([1], [("fewest", 17), ("greedy", 17), ("how", 17), ("ways", 17), ("worse", 17), ("always",),
                            ("least",)])
        self.assertEqual(told, [[17], [17, 17], [17, 17], [1], [0], [1, 2], [-33]])

    def test_two_kinds(self):
        told = ask_of([1, 7], [("fewest", 20), ("greedy", 20), ("how", 20), ("ways", 20), ("worse", 20), ("always",),
                               ("least",)])
        self.assertEqual(told, [[8], [8, 6, 2], [8, 6, 2], [1], [0], [1, 8], [-33]])

    def test_1_3_4_up_to_the_edge(self):
        fewest = [0, 1, 2, 1, 1, 2, 2, 2]
        worse = [0, 0, 0, 0, 0, 0, 1, 0]
        self.assertEqual(ask_of([1, 3, 4], [("fewest", n) for n in range(8)]), [[n] for n in fewest])
        self.assertEqual(ask_of([1, 3, 4], [("worse", n) for n in range(8)]), [[n] for n in worse])

    def test_the_sum_of_0(self):
        told = ask_of([1, 3, 4], [("fewest", 0), ("greedy", 0), ("how", 0), ("ways", 0), ("worse", 0)])
        self.assertEqual(told, [[0], [0, 0, 0, 0], [0, 0, 0, 0], [1], [0]])

    def test_how_takes_most_of_the_greatest_kind_of_ways_with_as_few(self):
        # 1 + 5 and 2 + 4 and 3 + 3 make 6 with two coins each.
        self.assertEqual(ask_of([1, 2, 3, 4, 5], [("how", 6), ("ways", 6)]), [[2, 1, 0, 0, 0, 1], [3]])

    def test_how_takes_most_of_the_next_kind_of_such(self):
        # 9 + 5 + 1 and 9 + 3 + 3 make 15 with three coins each, and so do 5 + 5 + 5.
        self.assertEqual(ask_of([1, 3, 5, 9], [("how", 15), ("ways", 15)]), [[3, 1, 0, 1, 1], [3]])

    def test_how_is_not_the_greatest_first_where_that_is_worse(self):
        told = ask_of([1, 10, 25], [("how", 30), ("greedy", 30), ("worse", 30)])
        self.assertEqual(told, [[3, 0, 3, 0], [6, 5, 0, 1], [3]])

    def test_sums_of_1000(self):
        self.assertEqual(ask_of([1], [("fewest", 1000), ("greedy", 1000), ("worse", 1000)]), [[1000], [1000, 1000], [0]])
        told = ask_of([1, 98, 99], [("fewest", 1000), ("greedy", 1000), ("worse", 1000)])
        # 1000 is ten of 99 and ten of 1, or such a number of 98 and 99 as leaves fewer.
        self.assertEqual(told, [[20], [20, 10, 0, 10], [0]])
        told = ask_of([1, 50, 75], [("fewest", 1000), ("greedy", 1000), ("worse", 1000)])
        self.assertEqual(told, [[14], [38, 25, 0, 13], [24]])

    def test_greatest_sums_of_how_and_ways(self):
        self.assertEqual(ask_of([1, 70, 80], [("how", 300), ("how", 280)]), [[4, 0, 2, 2], [4, 0, 4, 0]])
        self.assertEqual(ask_of([1], [("how", 300), ("ways", 60)]), [[300, 300], [1]])
        self.assertEqual(ask_of([1, 50, 75], [("how", 300)]), [[4, 0, 0, 4]])
        # 10 + 20 + 30 and three of 20 make 60 with three coins each, but two of 30 with two.
        self.assertEqual(ask_of([1, 10, 20, 30], [("ways", 60)]), [[1]])
        self.assertEqual(ask_of([1, 10, 20, 30, 40, 50], [("ways", 60)]), [[3]])


class AlwaysFewest(unittest.TestCase):

    def test_in_steps(self):
        self.assertEqual(ask_of([1, 2, 6, 12, 36, 72], [("always",), ("least",)]), [[1, 108], [-33]])

    def test_not_in_steps_but_always_fewest(self):
        self.assertEqual(ask_of([1, 2, 5, 10, 20, 50], [("always",), ("least",)]), [[1, 70], [-33]])
        self.assertEqual(ask_of([1, 2, 3], [("always",), ("least",)]), [[1, 5], [-33]])

    def test_the_greatest_edge(self):
        self.assertEqual(ask_of([1, 99, 100], [("always",), ("least",)]), [[0, 199], [198, 2, 99]])
        self.assertEqual(ask_of([1, 100], [("always",), ("least",)]), [[1, 101], [-33]])

    def test_worse_at_one_sum_alone_of_those_up_to_the_edge(self):
        told = {
            (1, 3, 4): [6, 2, 3],
            (1, 4, 5): [8, 2, 4],
            (1, 4, 9): [12, 3, 4],
            (1, 5, 16): [20, 4, 5],
            (1, 2, 5, 7): [10, 2, 3],
            (1, 2, 7, 16): [21, 3, 4],
            (1, 2, 3, 4, 6, 7): [12, 2, 3],
            (1, 2, 3, 4, 9, 12): [18, 2, 3],
        }
        for kinds, least in told.items():
            with self.subTest(kinds=kinds):
                self.assertEqual(worse_sums(list(kinds), edge(kinds)), least[:1])
                self.assertEqual(ask_of(kinds, [("always",), ("least",)]), [[0, edge(kinds)], least])

    def test_a_kind_more_makes_it_worse_and_one_less_always_fewest(self):
        told = ask_of([1, 5, 10, 25], [("always",), ("drop", 5), ("always",), ("least",), ("kind", 5), ("always",),
                                       ("kind", 24), ("always",), ("least",), ("drop", 24), ("least",)])
        self.assertEqual(told, [[1, 35], [3], [0, 35], [30, 3, 6], [4], [1, 35], [5], [0, 49], [29, 2, 5], [4], [-33]])

    def test_the_edge_itself_is_never_worse(self):
        for kinds in ([1], [1, 2], [1, 100], [1, 3, 4], [1, 99, 100], [1, 2, 3, 4, 6, 7]):
            top = edge(kinds)
            self.assertEqual(ask_of(kinds, [("worse", top), ("fewest", top), ("always",)])[:2], [[0], [2]])
            self.assertEqual(ask_of(kinds, [("always",)])[0][1], top)


if __name__ == "__main__":
    unittest.main()
