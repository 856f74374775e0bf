"""Each refusal, which of several due is answered, and that a refused call changes nothing."""

import unittest

from fewestcoins.purse import answers
from plain import ALONE, CODES, GREATEST_ARGUMENT, LIMITS, ask, ask_of, made

ASKING = [("kinds",), ("greedy", 97), ("how", 97), ("fewest", 97), ("worse", 97), ("ways", 47), ("always",),
          ("least",), ("bad", 130), ("most", 130), ("farthest", 7), ("plus", 47), ("without", 4), ("best", 47),
          ("steps",), ("sums", 130)]

SOME_KINDS = ([1], [1, 4], [1, 3, 4], [1, 2, 5, 10, 20], [1, 3, 4, 9, 27, 81])


class NotBegun(unittest.TestCase):

    def test_all_calls_but_begin(self):
        for name, code in CODES.items():
            for number in (0, 1, 2, 20, 60, 61, 101, 201, 1000, 1001, GREATEST_ARGUMENT):
                with self.subTest(name=name, number=number):
                    calls = [code] if name in ALONE else [code, number]
                    self.assertEqual(answers(calls), [1, 0] if name == "begin" else [1, -11])
        self.assertEqual(sorted(CODES.values()), list(range(19)))

    def test_it_comes_before_all_other_refusals(self):
        told = ask([("plus", 101), ("without", 5), ("without", 1), ("best", 1), ("best", 61), ("farthest", 0),
                    ("farthest", 21), ("most", 1001), ("sums", 1001), ("bad", 201), ("kinds",), ("steps",)])
        self.assertEqual(told, [[-11]] * 12)

    def test_many_before_a_begin_leave_nothing_behind(self):
        told = ask([("kind", 3), ("drop", 1), ("always",), ("least",), ("how", 301), ("begin",), ("greedy", 5),
                    ("drop", 3)])
        self.assertEqual(told, [[-11]] * 5 + [[0], [5, 5], [-2]])


class Refused(unittest.TestCase):

    def assert_refused(self, kinds, call, number):
        """The call answers that number, and all that is asked of the object is answered as without the call."""
        told = ask_of(kinds, [call] + ASKING)
        self.assertEqual(told[0], [number], (kinds, call))
        self.assertEqual(told[1:], ask_of(kinds, ASKING), (kinds, call))

    def test_kind_out_of_range(self):
        for kinds in ([1], [1, 3, 4], [1, 2, 3, 4, 5, 100]):
            for worth in (0, 1, 101, 102, 1000, GREATEST_ARGUMENT):
                self.assert_refused(kinds, ("kind", worth), -22)

    def test_kind_there_already(self):
        for worth in (2, 3, 100):
            self.assert_refused([1, 2, 3, 100], ("kind", worth), -17)

    def test_kind_too_many(self):
        for worth in (2, 50, 100):
            self.assert_refused([1, 3, 4, 9, 27, 81], ("kind", worth), -28)

    def test_kind_there_already_comes_before_too_many(self):
        for worth in (3, 4, 9, 27, 81):
            self.assert_refused([1, 3, 4, 9, 27, 81], ("kind", worth), -17)

    def test_kind_out_of_range_comes_before_there_already_and_too_many(self):
        self.assert_refused([1, 3, 4], ("kind", 1), -22)
        for worth in (0, 1, 101):
            self.assert_refused([1, 3, 4, 9, 27, 81], ("kind", worth), -22)

    def test_drop_none_such(self):
        for kinds in ([1], [1, 3, 4], [1, 3, 4, 9, 27, 81]):
            for worth in (0, 2, 5, 100, 101, GREATEST_ARGUMENT):
                self.assert_refused(kinds, ("drop", worth), -2)

    def test_drop_1(self):
        for kinds in ([1], [1, 3, 4], [1, 3, 4, 9, 27, 81]):
            self.assert_refused(kinds, ("drop", 1), -22)

    def test_numbers_above_the_greatest(self):
        for kinds in SOME_KINDS:
            for name, (_, greatest) in LIMITS.items():
                for number in (greatest + 1, greatest + 2, 1001, GREATEST_ARGUMENT - 1, GREATEST_ARGUMENT):
                    self.assert_refused(kinds, (name, number), -22)

    def test_numbers_below_the_least(self):
        for kinds in SOME_KINDS:
            for name, (least, _) in LIMITS.items():
                for number in range(least):
                    self.assert_refused(kinds, (name, number), -22)
        self.assertEqual([name for name, (least, _) in LIMITS.items() if least], ["farthest", "best"])

    def test_the_least_and_the_greatest_number_are_not_refused(self):
        for kinds in SOME_KINDS:
            for name, limits in LIMITS.items():
                for number in limits:
                    self.assertGreaterEqual(ask_of(kinds, [(name, number)])[0][0], 0, (kinds, name, number))

    def test_plus_out_of_range(self):
        for kinds in SOME_KINDS:
            for worth in (0, 1, 101, 102, 1000, GREATEST_ARGUMENT):
                self.assert_refused(kinds, ("plus", worth), -22)

    def test_plus_there_already(self):
        for kinds in SOME_KINDS + ([1, 2, 3, 4, 5, 100],):
            for worth in kinds[1:]:
                self.assert_refused(kinds, ("plus", worth), -17)

    def test_plus_1_is_out_of_range_though_it_is_there(self):
        for kinds in SOME_KINDS:
            self.assert_refused(kinds, ("plus", 1), -22)

    def test_plus_and_best_are_not_refused_where_there_are_six_kinds(self):
        kinds = [1, 3, 4, 9, 27, 81]
        told = ask_of(kinds, [("plus", worth) for worth in range(2, 101) if worth not in kinds])
        self.assertTrue(all(len(one) == 2 and one[1] == 0 for one in told))
        told = ask_of(kinds, [("best", top) for top in range(2, 61)])
        self.assertTrue(all(len(one) == 3 for one in told))

    def test_without_none_such(self):
        for kinds in SOME_KINDS:
            for worth in (0, 6, 99, 100, 101, 1000, GREATEST_ARGUMENT):
                self.assert_refused(kinds, ("without", worth), -2)

    def test_without_1(self):
        for kinds in SOME_KINDS:
            self.assert_refused(kinds, ("without", 1), -22)

    def test_without_a_kind_that_was_dropped(self):
        told = ask_of([1, 3, 4], [("drop", 3), ("without", 3), ("kind", 3), ("without", 3)])
        self.assertEqual(told, [[2], [-2], [3], [1, 0]])

    def test_least_where_always_fewest(self):
        for kinds in ([1], [1, 2], [1, 100], [1, 2, 4, 8, 16, 32], [1, 5, 10, 25, 50, 100]):
            self.assert_refused(kinds, ("least",), -33)

    def test_many_refusals_then_room_is_as_it_was(self):
        refused = [("kind", 0), ("plus", 101), ("kind", 3), ("without", 2), ("drop", 1)] * 10
        told = ask(made([1, 3, 4]) + refused + [("kind", 5), ("kind", 6), ("kind", 7), ("kind", 8)])
        self.assertEqual(told[3:53], [[-22], [-22], [-17], [-2], [-22]] * 10)
        self.assertEqual(told[53:], [[4], [5], [6], [-28]])


class Answered(unittest.TestCase):
    """What only tells changes nothing."""

    def assert_nothing_changed(self, kinds, calls):
        told = ask_of(kinds, calls + ASKING)
        self.assertTrue(all(one[0] >= 0 for one in told[:len(calls)]), (kinds, calls))
        self.assertEqual(told[len(calls):], ask_of(kinds, ASKING), (kinds, calls))

    def test_each_call_that_takes_a_number(self):
        for kinds in SOME_KINDS:
            for name, (least, greatest) in LIMITS.items():
                for number in (least, least + 1, greatest // 2, greatest):
                    self.assert_nothing_changed(kinds, [(name, number)])

    def test_steps_and_kinds(self):
        for kinds in SOME_KINDS:
            self.assert_nothing_changed(kinds, [("steps",)])
            self.assert_nothing_changed(kinds, [("kinds",)])

    def test_plus(self):
        for kinds in SOME_KINDS:
            for worth in (6, 7, 48, 99, 100):
                self.assert_nothing_changed(kinds, [("plus", worth)])

    def test_without(self):
        for kinds in SOME_KINDS[1:]:
            for worth in kinds[1:]:
                self.assert_nothing_changed(kinds, [("without", worth)])

    def test_what_was_told_of_is_not_there_and_not_gone(self):
        calls = [("plus", 2), ("drop", 2), ("without", 3), ("kind", 3), ("best", 10), ("drop", 5), ("kinds",)]
        self.assertEqual(ask_of([1, 3, 4], calls), [[1, 0], [-2], [1, 0], [-17], [5, 16, 19], [-2], [3, 1, 3, 4]])

    def test_many_that_tell_then_room_is_as_it_was(self):
        telling = [("plus", 2), ("plus", 5), ("without", 3), ("best", 60), ("kinds",)] * 10
        told = ask_of([1, 3, 4], telling + [("kind", 5), ("kind", 6), ("kind", 7), ("kind", 8)])
        self.assertEqual(told[50:], [[4], [5], [6], [-28]])


if __name__ == "__main__":
    unittest.main()
