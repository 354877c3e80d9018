"""The calls that only ask: hide_order, are_compatible, is_lot, fewest_lots."""

import itertools
import unittest

from searches import fewest_by_search, ways_to_share
from support import GREATEST, RequestCase, adding, ask


class HideOrderTest(RequestCase):

    def check_order(self, hides, order):
        self.check_last([("create", 5, 3), *adding(hides)], (("hide_order",), [len(hides), *order]))

    def test_with_no_hides(self):
        self.check_order([], [])

    def test_one_hide(self):
        self.check_order([(2, 60, 60)], [0])

    def test_the_kind_comes_before_the_thickness(self):
        self.check_order([(2, 1, 5), (1, 30, 5), (0, 60, 5)], [2, 1, 0])

    def test_the_thickness_comes_before_the_number(self):
        self.check_order([(1, 30, 1), (1, 9, 3), (1, 20, 2), (1, 10, 9)], [1, 3, 2, 0])

    def test_where_kind_and_thickness_are_equal_the_number_decides(self):
        self.check_order([(1, 30, 9), (0, 20, 9), (1, 30, 1), (0, 20, 8), (1, 30, 60), (0, 20, 7)],
                         [1, 3, 5, 0, 2, 4])

    def test_twelve_hides(self):
        hides = [(2 - number % 3, 1 + 7 * number % 5, 1 + number) for number in range(12)]
        order = sorted(range(12), key=lambda number: (*hides[number][:2], number))
        self.check_order(hides, order)

    def test_behind_each_kind_of_change(self):
        self.check(
            (("create", 5, 3), [0]),
            (("add_hide", 0, 20, 1), [0]),
            (("add_hide", 0, 30, 1), [1]),
            (("hide_order",), [2, 0, 1]),
            (("thin_hide", 1, 20), [30]),
            (("hide_order",), [2, 0, 1]),
            (("thin_hide", 1, 19), [20]),
            (("hide_order",), [2, 1, 0]),
            (("add_hide", 0, 1, 1), [2]),
            (("hide_order",), [3, 2, 1, 0]),
            (("remove_hide", 1), [2]),
            (("hide_order",), [2, 1, 0]),
            (("set_limits", 0, 1), [0, 5, 3]),
            (("hide_order",), [2, 1, 0]),
        )


class AreCompatibleTest(RequestCase):

    BEGIN = [("create", 5, 1), *adding([(0, 20, 1), (0, 25, 1), (0, 26, 1), (1, 20, 1), (0, 20, 60), (2, 20, 1)])]

    def check_pair(self, first, second, result):
        self.check_last(self.BEGIN, (("are_compatible", first, second), [result]),
                        (("are_compatible", second, first), [result]))

    def test_a_difference_of_just_the_tolerance(self):
        self.check_pair(0, 1, 1)

    def test_a_difference_of_one_more(self):
        self.check_pair(0, 2, 0)

    def test_equal_thicknesses(self):
        self.check_pair(0, 4, 1)

    def test_different_kinds(self):
        self.check_pair(0, 3, 0)
        self.check_pair(3, 5, 0)
        self.check_pair(1, 3, 0)

    def test_a_hide_with_itself(self):
        for hide in range(6):
            self.check_pair(hide, hide, 1)

    def test_a_tolerance_of_0_and_of_60(self):
        begin = [("create", 0, 1), *adding([(0, 1, 1), (0, 1, 1), (0, 2, 1), (0, 60, 1), (1, 1, 1)])]
        self.check_last(begin, (("are_compatible", 0, 1), [1]), (("are_compatible", 0, 2), [0]),
                        (("are_compatible", 0, 0), [1]), (("set_limits", 60, 1), [0, 0, 1]),
                        (("are_compatible", 0, 3), [1]), (("are_compatible", 3, 0), [1]),
                        (("are_compatible", 0, 4), [0]))

    def test_a_hide_that_does_not_exist(self):
        for pair in [(0, 6), (6, 0), (6, 6), (0, GREATEST), (GREATEST, 0), (6, 7)]:
            with self.subTest(pair=pair):
                begin = [("create", 5, 3), *self.BEGIN[1:]]
                self.check_refused(begin, 6, ("are_compatible", *pair), -2)
        self.check_refused([("create", 5, 3)], 0, ("are_compatible", 0, 0), -2)


class IsLotTest(RequestCase):

    HIDES = [(0, 20, 1), (0, 25, 1), (0, 22, 1), (0, 23, 1), (0, 27, 1), (1, 22, 1)]
    BEGIN = [("create", 5, 3), *adding(HIDES)]

    def check_lot(self, hides, result):
        for shuffled in itertools.permutations(hides):
            self.check_last(self.BEGIN, (("is_lot", *shuffled), [result]))

    def test_the_empty_list(self):
        self.check_lot([], 1)
        self.check((("create", 0, 1), [0]), (("is_lot",), [1]))

    def test_one_hide(self):
        for hide in range(6):
            self.check_lot([hide], 1)

    def test_fewer_than_lot_size(self):
        self.check_lot([0, 1], 1)

    def test_just_lot_size(self):
        self.check_lot([0, 1, 2], 1)

    def test_one_more_than_lot_size(self):
        self.check_lot([0, 1, 2, 3], 0)

    def test_a_difference_of_more_than_the_tolerance(self):
        self.check_lot([0, 4], 0)
        self.check_lot([0, 2, 4], 0)
        self.check_lot([1, 2, 4], 1)

    def test_different_kinds(self):
        self.check_lot([2, 5], 0)
        self.check_lot([2, 3, 5], 0)

    def test_twelve_hides(self):
        begin = [("create", 0, 12), *adding([(2, 7, 1)] * 12)]
        self.check_last(begin, (("is_lot", *range(12)), [1]), (("set_limits", 0, 11), [0, 0, 12]),
                        (("is_lot", *range(12)), [0]), (("is_lot", *range(11)), [1]))

    def test_a_hide_twice(self):
        for hides in [(0, 0), (0, 1, 0), (2, 1, 1), (0, 4, 4), (0, 1, 2, 3, 0)]:
            with self.subTest(hides=hides):
                self.check_refused(self.BEGIN, 6, ("is_lot", *hides), -22)

    def test_a_hide_that_does_not_exist(self):
        for hides in [(6,), (0, 6), (6, 0), (0, 4, 6), (GREATEST,), (0, 1, 2, 3, 7), (6, 6)]:
            with self.subTest(hides=hides):
                self.check_refused(self.BEGIN, 6, ("is_lot", *hides), -22)
        self.check_refused([("create", 5, 3)], 0, ("is_lot", 0), -22)

    def test_fourteen_numbers(self):
        full = [("create", 5, 3), *adding([(0, 20, 1)] * 12)]
        for hides in [tuple(range(14)), (0,) * 14, (*range(12), 0, 1), (GREATEST,) * 14]:
            with self.subTest(hides=hides):
                self.check_refused(full, 12, ("is_lot", *hides), -22)
                self.check_refused(self.BEGIN, 6, ("is_lot", *hides), -22)


class FewestLotsTest(RequestCase):

    def check_count(self, limits, hides, count):
        self.check_last([("create", *limits), *adding(hides)], (("fewest_lots",), [count]))

    def test_with_no_hides(self):
        self.check_count((5, 3), [], 0)

    def test_one_hide(self):
        self.check_count((0, 1), [(2, 60, 1)], 1)

    def test_where_lot_size_ends_a_lot(self):
        hides = [(1, 30, 1)] * 12
        for lot_size, count in [(1, 12), (2, 6), (3, 4), (4, 3), (5, 3), (6, 2), (11, 2), (12, 1)]:
            with self.subTest(lot_size=lot_size):
                self.check_count((60, lot_size), hides, count)

    def test_where_the_tolerance_ends_a_lot(self):
        hides = [(1, thickness, 1) for thickness in (10, 12, 14, 16, 18, 20)]
        for tolerance, count in [(0, 6), (1, 6), (2, 3), (3, 3), (4, 2), (5, 2), (9, 2), (10, 1), (60, 1)]:
            with self.subTest(tolerance=tolerance):
                self.check_count((tolerance, 12), hides, count)

    def test_steps_within_the_tolerance_do_not_add_up_to_one_lot(self):
        self.check_count((5, 12), [(0, 10, 1), (0, 15, 1), (0, 20, 1)], 2)

    def test_several_kinds(self):
        self.check_count((60, 12), [(0, 30, 1), (1, 30, 1), (2, 30, 1), (1, 30, 1), (0, 30, 1)], 3)
        self.check_count((60, 12), [(0, 30, 1), (2, 30, 1)], 2)
        self.check_count((5, 2), [(1, 20, 1), (0, 25, 1), (1, 24, 1), (0, 20, 1), (0, 21, 1)], 3)

    def test_the_order_of_adding_is_of_no_account(self):
        hides = [(0, 10, 1), (0, 14, 2), (0, 15, 3), (0, 19, 4), (1, 12, 5)]
        for shuffled in itertools.permutations(hides):
            self.check_count((5, 3), shuffled, 3)

    def test_asking_changes_nothing(self):
        begin = [("create", 5, 2), *adding([(0, 25, 1), (0, 20, 1), (0, 24, 1)])]
        self.check_last(begin, (("fewest_lots",), [2]), (("fewest_lots",), [2]), (("hide_order",), [3, 1, 2, 0]),
                        (("get_hide", 0), [0, 25, 1]), (("set_limits", 5, 2), [0, 5, 2]))


class FewestBySearchTest(unittest.TestCase):

    def check_hides(self, hides):
        limits = [(tolerance, lot_size) for tolerance in range(5) for lot_size in range(1, 5)]
        asked = [call for pair in limits for call in (("set_limits", *pair), ("fewest_lots",))]
        begin = [("create", 0, 1), *adding(hides)]
        counts = [answer[0] for answer in ask(*begin, *asked)[len(begin) + 1::2]]
        ways = list(ways_to_share(hides))
        searched = [fewest_by_search(ways, tolerance, lot_size) for tolerance, lot_size in limits]
        self.assertEqual(counts, searched, hides)

    def test_five_hides_of_two_kinds(self):
        choice = [(kind, thickness, 1) for kind in (2, 0) for thickness in (13, 10, 14, 11)]
        for hides in itertools.combinations_with_replacement(choice, 5):
            self.check_hides(list(hides))

    def test_six_hides_of_one_kind(self):
        choice = [(1, thickness, 1) for thickness in (3, 9, 1, 4, 6)]
        for hides in itertools.combinations_with_replacement(choice, 6):
            self.check_hides(list(hides))


class AdditionalHideTest(unittest.TestCase):

    def check_growth(self, hides, tolerance, lot_size):
        calls = [call for hide in hides for call in (("add_hide", *hide), ("fewest_lots",))]
        counts = [0, *[answer[0] for answer in ask(("create", tolerance, lot_size), *calls)[2::2]]]
        for before, behind in zip(counts, counts[1:]):
            self.assertIn(behind - before, (0, 1), (hides, tolerance, lot_size))

    def test_a_hide_more_is_at_most_a_lot_more_and_never_a_lot_less(self):
        choice = [(kind, thickness, 1) for kind in (1, 0) for thickness in (3, 1, 4)]
        for hides in itertools.product(choice, repeat=4):
            for tolerance, lot_size in ((0, 2), (1, 2), (2, 2), (2, 3), (3, 3)):
                self.check_growth(hides, tolerance, lot_size)

    def test_twelve_hides(self):
        for step in range(1, 20):
            hides = [(number * step % 7 % 3, 1 + number * number * step % 60, 1) for number in range(12)]
            for tolerance, lot_size in ((0, 12), (7, 2), (15, 3), (30, 12), (60, 4)):
                self.check_growth(hides, tolerance, lot_size)


if __name__ == "__main__":
    unittest.main()
