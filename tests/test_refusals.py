"""Each refusal, which of several due is answered, and that a refused call changes nothing."""

import unittest

from fewestcoins.purse import answers
from plain import ALL_CODES_ALONE, GREATEST_ARGUMENT, ask, ask_of, made

ASKING = [("greedy", 97), ("how", 97), ("fewest", 97), ("worse", 97), ("ways", 47), ("always",), ("least",)]


class NotBegun(unittest.TestCase):

    def test_all_calls_but_begin(self):
        for call in range(1, 19):
            for number in (0, 1, 2, 60, 101, 1001, GREATEST_ARGUMENT):
                with self.subTest(call=call, number=number):
                    calls = [call] if call in ALL_CODES_ALONE else [call, number]
                    self.assertEqual(answers(calls), [1, -11])

    def test_many_before_a_begin_leave_nothing_behind(self):
        told = ask([("kind", 3), ("drop", 1), ("always",), ("least",), ("how", 301), ("begin",), ("greedy", 5),
                    ("drop", 3)])
        self.assertEqual(told, [[-11]] * 5 + [[0], [5, 5], [-2]])


class Refused(unittest.TestCase):

    def assert_refused(self, kinds, call, number):
        """The call answers that number, and all that is asked of the object is answered as without the call."""
        told = ask_of(kinds, [call] + ASKING)
        self.assertEqual(told[0], [number], (kinds, call))
        self.assertEqual(told[1:], ask_of(kinds, ASKING), (kinds, call))

    def test_kind_out_of_range(self):
        for kinds in ([1], [1, 3, 4], [1, 2, 3, 4, 5, 100]):
            for worth in (0, 1, 101, 102, 1000, GREATEST_ARGUMENT):
                self.assert_refused(kinds, ("kind", worth), -22)

    def test_kind_there_already(self):
        for worth in (2, 3, 100):
            self.assert_refused([1, 2, 3, 100], ("kind", worth), -17)

    def test_kind_too_many(self):
        for worth in (2, 50, 100):
            self.assert_refused([1, 3, 4, 9, 27, 81], ("kind", worth), -28)

    def test_kind_there_already_comes_before_too_many(self):
        for worth in (3, 4, 9, 27, 81):
            self.assert_refused([1, 3, 4, 9, 27, 81], ("kind", worth), -17)

    def test_kind_out_of_range_comes_before_there_already_and_too_many(self):
        self.assert_refused([1, 3, 4], ("kind", 1), -22)
        for worth in (0, 1, 101):
            self.assert_refused([1, 3, 4, 9, 27, 81], ("kind", worth), -22)

    def test_drop_none_such(self):
        for kinds in ([1], [1, 3, 4], [1, 3, 4, 9, 27, 81]):
            for worth in (0, 2, 5, 100, 101, GREATEST_ARGUMENT):
                self.assert_refused(kinds, ("drop", worth), -2)

    def test_drop_1(self):
        for kinds in ([1], [1, 3, 4], [1, 3, 4, 9, 27, 81]):
            self.assert_refused(kinds, ("drop", 1), -22)

    def test_sums_above_the_greatest(self):
        for kinds in ([1], [1, 3], [1, 3, 4, 9, 27, 81]):
            for name, greatest in (("fewest", 1000), ("greedy", 1000), ("worse", 1000), ("how", 300), ("ways", 60)):
                for total in (greatest + 1, greatest + 2, 1001, GREATEST_ARGUMENT):
                    self.assert_refused(kinds, (name, total), -22)
                self.assertGreaterEqual(ask_of(kinds, [(name, greatest)])[0][0], 0)

    def test_least_where_always_fewest(self):
        for kinds in ([1], [1, 2], [1, 100], [1, 2, 4, 8, 16, 32], [1, 5, 10, 25, 50, 100]):
            self.assert_refused(kinds, ("least",), -33)

    def test_many_refusals_then_room_is_as_it_was(self):
        refused = [("kind", 0), ("kind", 101), ("kind", 3), ("drop", 2), ("drop", 1)] * 10
        told = ask(made([1, 3, 4]) + refused + [("kind", 5), ("kind", 6), ("kind", 7), ("kind", 8)])
        self.assertEqual(told[3:53], [[-22], [-22], [-17], [-2], [-22]] * 10)
        self.assertEqual(told[53:], [[4], [5], [6], [-28]])


if __name__ == "__main__":
    unittest.main()
