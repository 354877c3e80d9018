"""The calls about lots: greedy_lots, incompatible_hides, largest_lot, total_area."""

import itertools
import unittest

from searches import compatible, fewest_by_search, greatest_area, is_lot, ways_to_share
from support import GREATEST, RequestCase, ask, begun

SOME = [(0, 20, 10), (2, 60, 60), (1, 1, 1), (0, 24, 30)]


def row(*thicknesses):
    """Hides of one kind and area."""
    return [(1, thickness, 1) for thickness in thicknesses]


def areas(*numbers):
    """Hides of one kind, each one thicker than the one before by 1, with these areas."""
    return [(0, 10 + place, area) for place, area in enumerate(numbers)]


def lots_of(answer):
    """The lots that greedy_lots answers."""
    lots = []
    place = 1
    while place < len(answer):
        lots.append(answer[place + 1:place + 1 + answer[place]])
        place += 1 + answer[place]
    assert len(lots) == answer[0]
    return lots


class GreedyLotsTest(RequestCase):

    def check_lots(self, limits, hides, *lots):
        told = [number for lot in lots for number in [len(lot), *lot]]
        self.check_asked(limits, hides, ("greedy_lots",), [len(lots), *told])
        self.check_asked(limits, hides, ("fewest_lots",), [len(lots)])

    def test_with_no_hides(self):
        self.check((("create", 5, 3), [0]), (("greedy_lots",), [0]))

    def test_one_hide(self):
        self.check_lots((0, 1), [(2, 60, 1)], [0])

    def test_where_lot_size_ends_a_lot(self):
        hides = row(30, 30, 30, 30, 30)
        self.check_lots((60, 1), hides, [0], [1], [2], [3], [4])
        self.check_lots((60, 2), hides, [0, 1], [2, 3], [4])
        self.check_lots((60, 3), hides, [0, 1, 2], [3, 4])
        self.check_lots((60, 4), hides, [0, 1, 2, 3], [4])
        self.check_lots((60, 5), hides, [0, 1, 2, 3, 4])
        self.check_lots((60, 12), hides, [0, 1, 2, 3, 4])

    def test_where_the_tolerance_ends_a_lot(self):
        hides = row(10, 12, 14, 16, 18, 20)
        self.check_lots((1, 12), hides, [0], [1], [2], [3], [4], [5])
        self.check_lots((2, 12), hides, [0, 1], [2, 3], [4, 5])
        self.check_lots((3, 12), hides, [0, 1], [2, 3], [4, 5])
        self.check_lots((4, 12), hides, [0, 1, 2], [3, 4, 5])
        self.check_lots((9, 12), hides, [0, 1, 2, 3, 4], [5])
        self.check_lots((10, 12), hides, [0, 1, 2, 3, 4, 5])

    def test_the_first_hide_of_a_lot_counts_too(self):
        self.check_lots((5, 12), row(10, 15, 20), [0, 1], [2])

    def test_a_tolerance_of_0(self):
        self.check_lots((0, 12), row(11, 10, 11, 10), [1, 3], [0, 2])

    def test_where_the_kind_ends_a_lot(self):
        hides = [(2, 30, 1), (0, 30, 1), (1, 30, 1), (0, 31, 1), (2, 29, 1)]
        self.check_lots((60, 12), hides, [1, 3], [2], [4, 0])

    def test_where_each_of_them_ends_a_lot(self):
        hides = [(1, 8, 1), (0, 9, 1), (0, 4, 1), (0, 3, 1), (1, 4, 1), (0, 5, 1), (0, 5, 2), (1, 3, 1)]
        self.check_lots((5, 3), hides, [3, 2, 5], [6, 1], [7, 4, 0])
        self.check_lots((4, 3), hides, [3, 2, 5], [6, 1], [7, 4], [0])

    def test_twelve_hides_in_the_order_of_the_hide_order(self):
        hides = [(2 - number % 3, 40 - number, 1) for number in range(12)]
        self.check_lots((6, 12), hides, [11, 8, 5], [2], [10, 7, 4], [1], [9, 6, 3], [0])
        self.check_lots((9, 12), hides, [11, 8, 5, 2], [10, 7, 4, 1], [9, 6, 3, 0])

    def test_behind_each_kind_of_change(self):
        self.check(
            (("create", 5, 2), [0]),
            (("add_hide", 0, 20, 1), [0]),
            (("add_hide", 0, 26, 1), [1]),
            (("greedy_lots",), [2, 1, 0, 1, 1]),
            (("thin_hide", 1, 25), [26]),
            (("greedy_lots",), [1, 2, 0, 1]),
            (("add_hide", 0, 15, 1), [2]),
            (("greedy_lots",), [2, 2, 2, 0, 1, 1]),
            (("set_limits", 10, 3), [0, 5, 2]),
            (("greedy_lots",), [1, 3, 2, 0, 1]),
            (("remove_hide", 0), [2]),
            (("greedy_lots",), [1, 2, 1, 0]),
            (("create", 5, 2), [0]),
            (("greedy_lots",), [0]),
        )

    def test_against_all_ways_to_share_five_hides_out(self):
        choice = [(kind, thickness, 1) for kind in (2, 0) for thickness in (13, 10, 14, 11)]
        for hides in itertools.combinations_with_replacement(choice, 5):
            self.check_fewest(list(hides), [(0, 2), (1, 1), (1, 2), (1, 5), (2, 3), (3, 2), (4, 4)])

    def test_against_all_ways_to_share_six_hides_out(self):
        choice = row(3, 9, 1, 4, 6)
        for hides in itertools.combinations_with_replacement(choice, 6):
            self.check_fewest(list(hides), [(0, 2), (2, 2), (2, 6), (3, 3), (5, 4)])

    def check_fewest(self, hides, limits):
        asked = [call for pair in limits for call in (("set_limits", *pair), ("greedy_lots",))]
        given = ask(*begun((0, 1), hides), *asked)[len(hides) + 2::2]
        ways = list(ways_to_share(hides))
        for (tolerance, lot_size), answer in zip(limits, given, strict=True):
            lots = lots_of(answer)
            self.assertEqual(sorted(number for lot in lots for number in lot), list(range(len(hides))))
            for lot in lots:
                self.assertTrue(is_lot([hides[number] for number in lot], tolerance, lot_size), (hides, lots))
            self.assertEqual(len(lots), fewest_by_search(ways, tolerance, lot_size), hides)


class IncompatibleHidesTest(RequestCase):

    def check_taken(self, limits, hides, *taken):
        self.check_asked(limits, hides, ("incompatible_hides",), [len(taken), *taken])

    def test_with_no_hides(self):
        self.check((("create", 5, 3), [0]), (("incompatible_hides",), [0]))

    def test_one_hide(self):
        self.check_taken((0, 1), row(60), 0)

    def test_a_difference_of_just_the_tolerance(self):
        self.check_taken((5, 12), row(20, 25), 0)
        self.check_taken((0, 12), row(20, 20), 0)
        self.check_taken((59, 12), row(60, 1), 1)

    def test_a_difference_of_one_more(self):
        self.check_taken((5, 12), row(20, 26), 0, 1)
        self.check_taken((0, 12), row(20, 21), 0, 1)
        self.check_taken((58, 12), row(60, 1), 1, 0)

    def test_each_hide_is_held_against_the_last_one_that_was_taken(self):
        self.check_taken((5, 12), row(10, 15, 20, 25), 0, 2)
        self.check_taken((5, 12), row(10, 16, 21, 22), 0, 1, 3)

    def test_several_kinds(self):
        self.check_taken((60, 12), [(2, 30, 1), (0, 30, 1), (1, 30, 1), (0, 31, 1)], 1, 2, 0)
        self.check_taken((5, 12), [(1, 21, 1), (0, 20, 1), (1, 15, 1), (0, 30, 1), (0, 25, 1)], 1, 3, 2, 0)

    def test_of_equal_hides_the_first_is_taken(self):
        self.check_taken((0, 12), row(9, 7, 9, 7), 1, 0)

    def test_lot_size_is_of_no_account(self):
        for lot_size in (1, 2, 12):
            self.check_taken((5, lot_size), row(20, 25, 22, 26), 0, 3)

    def check_bound(self, hides, tolerance):
        begin = begun((tolerance, len(hides)), hides)
        asked = ask(*begin, ("incompatible_hides",), ("fewest_lots",), ("set_limits", tolerance, 2),
                    ("incompatible_hides",), ("fewest_lots",))[len(begin):]
        taken = asked[0][1:]
        self.assertEqual(asked[0][0], len(taken))
        for one, other in itertools.combinations(taken, 2):
            self.assertFalse(compatible(hides[one], hides[other], tolerance), (hides, tolerance))
        self.assertEqual(asked[1], [len(taken)])
        self.assertEqual(asked[3], asked[0])
        self.assertLessEqual(len(taken), asked[4][0])

    def test_no_two_are_compatible_and_they_are_as_many_as_the_lots_can_be(self):
        choice = [(kind, thickness, 1) for kind in (1, 0) for thickness in (13, 10, 14, 18)]
        for hides in itertools.combinations_with_replacement(choice, 5):
            for tolerance in (0, 1, 3, 4, 5):
                self.check_bound(list(hides), tolerance)

    def test_twelve_hides(self):
        for step in range(1, 30):
            hides = [(number * step % 7 % 3, 1 + number * number * step % 60, 1) for number in range(12)]
            for tolerance in (0, 7, 15, 30, 60):
                self.check_bound(hides, tolerance)


class LargestLotTest(RequestCase):

    def check_largest(self, limits, hides, area, *lot):
        self.check_asked(limits, hides, ("largest_lot",), [area, len(lot), *lot])

    def test_with_no_hides(self):
        self.check((("create", 5, 3), [0]), (("largest_lot",), [-33]))
        self.check_refused([("create", 5, 3)], 0, ("largest_lot",), -33)
        self.check_refused([*begun((5, 3), SOME[:1]), ("remove_hide", 0)], 0, ("largest_lot",), -33)

    def test_one_hide(self):
        self.check_largest((0, 1), [(2, 60, 1)], 1, 0)
        self.check_largest((60, 12), [(0, 1, 60)], 60, 0)

    def test_a_run_no_longer_than_lot_size_is_taken_whole(self):
        self.check_largest((60, 3), areas(5, 1, 7), 13, 0, 1, 2)
        self.check_largest((60, 12), areas(5, 1, 7), 13, 0, 1, 2)

    def test_the_hides_of_the_greatest_areas_need_not_be_neighbours(self):
        self.check_largest((60, 2), areas(9, 1, 8, 2), 17, 0, 2)
        self.check_largest((60, 2), areas(8, 1, 2, 9), 17, 0, 3)
        self.check_largest((60, 3), areas(1, 9, 2, 7, 3, 8, 1), 24, 1, 3, 5)

    def test_the_hides_come_in_the_order_of_the_run(self):
        self.check_largest((60, 2), [(0, 13, 8), (0, 11, 1), (0, 10, 9)], 17, 2, 0)
        self.check_largest((60, 3), [(0, 13, 8), (0, 11, 1), (0, 10, 9)], 18, 2, 1, 0)
        self.check_largest((60, 3), [(0, 10, 2), (0, 10, 1), (0, 9, 3), (0, 10, 4)], 9, 2, 0, 3)

    def test_the_tolerance_ends_a_run(self):
        hides = [(0, 10, 9), (0, 14, 1), (0, 15, 9), (0, 19, 2)]
        self.check_largest((4, 2), hides, 11, 2, 3)
        self.check_largest((5, 2), hides, 18, 0, 2)
        self.check_largest((4, 12), hides, 11, 2, 3)
        self.check_largest((5, 12), hides, 19, 0, 1, 2)
        self.check_largest((0, 12), hides, 9, 0)

    def test_the_kind_ends_a_run(self):
        hides = [(2, 10, 9), (0, 10, 5), (1, 10, 6), (0, 10, 5), (2, 60, 9)]
        self.check_largest((0, 12), hides, 10, 1, 3)
        self.check_largest((49, 12), hides, 10, 1, 3)
        self.check_largest((50, 12), hides, 18, 0, 4)

    def test_of_equal_areas_within_a_run_the_first_stay(self):
        self.check_largest((60, 2), areas(5, 7, 5, 5), 12, 0, 1)
        self.check_largest((60, 3), areas(5, 7, 5, 5), 17, 0, 1, 2)
        self.check_largest((60, 2), areas(1, 5, 5, 5), 10, 1, 2)
        self.check_largest((60, 3), areas(4, 4, 1, 4, 4), 12, 0, 1, 3)
        self.check_largest((60, 2), [(0, 12, 5), (0, 11, 5), (0, 10, 5), (0, 11, 5)], 10, 2, 1)

    def test_of_equal_parts_the_first_position_decides(self):
        self.check_largest((1, 2), areas(3, 4, 3), 7, 0, 1)
        self.check_largest((3, 2), [(0, 10, 6), (0, 11, 4), (0, 14, 6)], 10, 0, 1)
        self.check_largest((3, 2), [(0, 14, 6), (0, 11, 4), (0, 10, 6)], 10, 2, 1)
        self.check_largest((60, 12), [(1, 30, 10), (0, 30, 10)], 10, 1)
        self.check_largest((2, 12), [(0, 10, 5), (0, 20, 2), (0, 21, 2), (0, 22, 1), (0, 30, 5)], 5, 0)
        self.check_largest((2, 12), [(2, 10, 5), (1, 20, 3), (1, 21, 2), (0, 30, 4)], 5, 1, 2)

    def test_a_longer_run_counts_only_with_a_greater_area(self):
        self.check_largest((60, 1), areas(5, 5, 5), 5, 0)
        self.check_largest((60, 2), areas(3, 5, 3, 5, 3), 10, 1, 3)
        self.check_largest((60, 2), areas(3, 5, 3, 2), 8, 0, 1)

    def test_lot_size_1(self):
        self.check_largest((60, 1), areas(3, 9, 4, 9), 9, 1)
        self.check_largest((0, 1), [(1, 5, 7), (0, 6, 7), (0, 5, 7), (0, 5, 6)], 7, 2)

    def test_twelve_hides(self):
        self.check_largest((0, 12), [(1, 30, 60)] * 12, 720, *range(12))
        self.check_largest((0, 5), [(1, 30, 60)] * 12, 300, *range(5))

    def check_search(self, hides):
        limits = [(tolerance, lot_size) for tolerance in (0, 1, 2, 4) for lot_size in (1, 2, 3, 5)]
        asked = [call for pair in limits for call in (("set_limits", *pair), ("largest_lot",))]
        given = ask(*begun((0, 1), hides), *asked)[len(hides) + 2::2]
        for (tolerance, lot_size), answer in zip(limits, given, strict=True):
            lot = [hides[number] for number in answer[2:]]
            self.assertTrue(is_lot(lot, tolerance, lot_size), (hides, answer))
            self.assertEqual(answer[:2], [sum(hide[2] for hide in lot), len(lot)])
            self.assertEqual(answer[0], greatest_area(hides, tolerance, lot_size), hides)
            places = [(hides[number][:2], number) for number in answer[2:]]
            self.assertEqual(places, sorted(set(places)))

    def test_against_all_lots_of_five_hides(self):
        shapes = [(0, 10), (0, 11), (0, 12), (0, 14), (1, 11), (1, 12)]
        for step, chosen in enumerate(itertools.combinations_with_replacement(shapes, 5)):
            self.check_search([(*shape, 1 + (3 + step) * place * place % 7) for place, shape in enumerate(chosen)])

    def test_against_all_lots_of_seven_hides(self):
        for step in range(1, 60):
            self.check_search([(place * step % 5 % 2, 10 + place * place * step % 7, 1 + place * step % 11)
                               for place in range(7)])


class TotalAreaTest(RequestCase):

    def check_total(self, hides, area):
        self.check_asked((5, 3), SOME, ("total_area", *hides), [area])

    def test_the_empty_list(self):
        self.check((("create", 5, 3), [0]), (("total_area",), [0]))
        self.check_total([], 0)

    def test_the_hides_that_are_named(self):
        self.check_total([0], 10)
        self.check_total([2], 1)
        self.check_total([3, 1], 90)
        for hides in itertools.permutations([0, 2, 3]):
            self.check_total(hides, 41)

    def test_they_need_not_be_a_lot(self):
        self.check_total([0, 1, 2, 3], 101)
        self.check_asked((0, 1), SOME, ("total_area", 0, 1, 2, 3), [101])

    def test_twelve_hides(self):
        self.check_asked((5, 3), [(1, 30, 60)] * 12, ("total_area", *range(12)), [720])
        self.check_asked((5, 3), areas(*range(1, 13)), ("total_area", *reversed(range(12))), [78])

    def test_a_hide_twice(self):
        for hides in [(0, 0), (0, 1, 0), (2, 3, 3), (3, 2, 1, 0, 3)]:
            with self.subTest(hides=hides):
                self.check_refused(begun((5, 3), SOME), 4, ("total_area", *hides), -22)

    def test_a_hide_that_does_not_exist(self):
        for hides in [(4,), (0, 4), (4, 0), (0, 1, 2, 3, 4), (GREATEST,), (12,), (4, 4), (0, 0, 4)]:
            with self.subTest(hides=hides):
                self.check_refused(begun((5, 3), SOME), 4, ("total_area", *hides), -22)
        self.check_refused([("create", 5, 3)], 0, ("total_area", 0), -22)

    def test_fourteen_numbers(self):
        full = begun((5, 3), [(0, 20, 1)] * 12)
        for hides in [tuple(range(14)), (0,) * 14, (*range(12), 0, 1), (GREATEST,) * 14]:
            with self.subTest(hides=hides):
                self.check_refused(full, 12, ("total_area", *hides), -22)
                self.check_refused(begun((5, 3), SOME), 4, ("total_area", *hides), -22)

    def test_behind_changes(self):
        self.check_last(begun((5, 3), SOME), (("remove_hide", 1), [3]), (("total_area", 0, 1), [11]),
                        (("thin_hide", 2, 3), [24]), (("total_area", 2), [30]), (("total_area", 3), [-22]),
                        (("add_hide", 0, 1, 60), [3]), (("total_area", 3, 2), [90]))


if __name__ == "__main__":
    unittest.main()
