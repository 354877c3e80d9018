"""What would be with other limits or hides: least_tolerance, lots_without_hide, lots_with_hide; and status."""

import itertools
import unittest

from support import GREATEST, RequestCase, ask, begun

SOME = [(0, 20, 10), (2, 60, 60), (1, 1, 1), (0, 24, 30)]
WRONG_MEASURES = [(3, 20, 10), (0, 0, 10), (0, 61, 10), (0, 20, 0), (0, 20, 61), (3, 0, 61),
                  (GREATEST, 20, 10), (0, GREATEST, 10), (0, 20, GREATEST), (GREATEST, GREATEST, GREATEST)]


def row(*thicknesses):
    """Hides of one kind and area."""
    return [(1, thickness, 1) for thickness in thicknesses]


class LeastToleranceTest(RequestCase):

    def check_least(self, lot_size, hides, lot_count, answer):
        for tolerance in (0, 5, 60):
            self.check_asked((tolerance, lot_size), hides, ("least_tolerance", lot_count), [answer])

    def test_no_lots_with_no_hides(self):
        self.check((("create", 5, 3), [0]), (("least_tolerance", 0), [0]))
        for lot_count in (0, 1, 12, GREATEST):
            self.check_least(3, [], lot_count, 0)

    def test_no_lots_with_hides(self):
        self.check_least(12, row(20), 0, -33)
        self.check_least(1, SOME, 0, -33)

    def test_just_as_much_as_the_thicknesses_differ(self):
        self.check_least(12, row(20, 27), 1, 7)
        self.check_least(12, row(27, 20, 25), 1, 7)
        self.check_least(12, row(27, 20, 25), 2, 2)
        self.check_least(12, row(27, 20, 25), 3, 0)

    def test_what_is_best_put_together_is_not_the_first(self):
        self.check_least(12, row(10, 14, 15, 19), 2, 4)
        self.check_least(12, row(10, 16, 17, 18), 2, 2)
        self.check_least(2, row(10, 16, 17, 18), 3, 1)
        self.check_least(2, row(10, 16, 17, 18), 2, 6)

    def test_several_kinds(self):
        hides = [(0, 10, 1), (1, 10, 1), (2, 10, 1), (0, 13, 1), (1, 15, 1)]
        for lot_count, answer in [(0, -33), (1, -33), (2, -33), (3, 5), (4, 3), (5, 0), (6, 0)]:
            with self.subTest(lot_count=lot_count):
                self.check_least(12, hides, lot_count, answer)

    def test_lot_size_bars_fewer_lots(self):
        hides = row(20, 20, 21, 23, 26)
        for lot_size, lot_count, answer in [(1, 4, -33), (1, 5, 0), (2, 2, -33), (2, 3, 2), (2, 4, 0), (3, 1, -33),
                                            (3, 2, 3), (4, 1, -33), (4, 2, 3), (5, 1, 6), (12, 1, 6)]:
            with self.subTest(lot_size=lot_size, lot_count=lot_count):
                self.check_least(lot_size, hides, lot_count, answer)

    def test_lot_size_bars_fewer_lots_of_several_kinds(self):
        hides = [(kind, 30, 1) for kind in (0, 0, 0, 1, 2, 2)]
        for lot_count, answer in [(3, -33), (4, 0), (5, 0)]:
            self.check_least(2, hides, lot_count, answer)

    def test_the_least_answer(self):
        self.check_least(12, row(30), 1, 0)
        self.check_least(12, row(30, 30, 30), 1, 0)
        self.check_least(1, row(1, 60), 2, 0)

    def test_the_greatest_answer(self):
        # Thicknesses from 1 to 60 differ by 59 at most, so no hides ask for a tolerance of 60.
        self.check_least(12, row(1, 60), 1, 59)
        self.check_least(12, row(60, 30, 1), 1, 59)
        self.check_least(12, row(60, 2), 1, 58)

    def test_great_numbers_of_lots(self):
        for lot_count in (4, 5, 12, 60, 61, GREATEST - 1, GREATEST):
            self.check_least(1, SOME, lot_count, 0)

    def test_twelve_hides(self):
        hides = row(*range(5, 60, 5), 60)
        for lot_count, answer in [(0, -33), (1, 55), (2, 25), (3, 15), (4, 10), (5, 10), (6, 5), (11, 5), (12, 0)]:
            with self.subTest(lot_count=lot_count):
                self.check_least(12, hides, lot_count, answer)

    def check_sufficient(self, lot_size, hides):
        begin = begun((7, lot_size), hides)
        least = [answer[0] for answer in ask(*begin, *[("least_tolerance", count) for count in range(8)])[len(begin):]]
        asked = [call for tolerance in least for near in (max(tolerance, 0), max(tolerance - 1, 0))
                 for call in (("set_limits", near, lot_size), ("fewest_lots",))]
        most = ask(*begin, ("set_limits", 60, lot_size), ("fewest_lots",))[-1][0]
        counts = [answer[0] for answer in ask(*begin, *asked)[len(begin) + 1::2]]
        for lot_count, tolerance in enumerate(least):
            if tolerance == -33:
                self.assertGreater(most, lot_count, (hides, lot_size))
                continue
            self.assertLessEqual(counts[2 * lot_count], lot_count, (hides, lot_size))
            if tolerance > 0:
                self.assertGreater(counts[2 * lot_count + 1], lot_count, (hides, lot_size))

    def test_the_answer_is_sufficient_and_one_less_is_not(self):
        choice = [(kind, thickness, 1) for kind in (1, 0) for thickness in (13, 10, 14, 60)]
        for hides in itertools.combinations_with_replacement(choice, 4):
            for lot_size in (1, 2, 3):
                self.check_sufficient(lot_size, list(hides))
        for step in range(1, 60):
            hides = [(number * step % 3 % 2, 1 + number * number * step % 60, 1) for number in range(12)]
            for lot_size in (2, 3, 12):
                self.check_sufficient(lot_size, hides)


class LotsWithoutHideTest(RequestCase):

    def check_without(self, limits, hides, *counts):
        for hide, count in enumerate(counts):
            with self.subTest(hide=hide):
                self.check_asked(limits, hides, ("lots_without_hide", hide), [count])
                behind = ask(*begun(limits, hides), ("remove_hide", hide), ("fewest_lots",))
                self.assertEqual(behind[-1], [count])
        self.check_refused(begun(limits, hides), len(hides), ("lots_without_hide", len(hides)), -2)

    def test_the_only_hide(self):
        self.check_without((5, 3), row(20), 0)

    def test_each_of_several_hides(self):
        self.check_without((5, 12), row(10, 15, 20), 1, 2, 1)
        self.check_without((5, 12), row(10, 20, 30), 2, 2, 2)
        self.check_without((5, 2), row(10, 10, 10), 1, 1, 1)
        self.check_without((5, 2), row(10, 10, 10, 10), 2, 2, 2, 2)
        self.check_without((5, 3), SOME, 3, 2, 2, 3)

    def test_the_lots_begin_anew_without_the_first_hide(self):
        self.check_without((5, 12), row(10, 14, 19, 23), 2, 2, 2, 2)
        self.check_without((4, 12), row(10, 14, 18, 22, 26), 2, 3, 2, 3, 2)

    def test_twelve_hides(self):
        self.check_without((0, 11), row(*[30] * 12), *[1] * 12)
        self.check_without((0, 1), row(*range(30, 18, -1)), *[11] * 12)

    def test_a_hide_that_does_not_exist(self):
        for hide in (4, 5, 12, GREATEST):
            with self.subTest(hide=hide):
                self.check_refused(begun((5, 3), SOME), 4, ("lots_without_hide", hide), -2)

    def test_with_no_hides(self):
        self.check((("create", 5, 3), [0]), (("lots_without_hide", 0), [-2]))
        for hide in (0, 1, GREATEST):
            self.check_refused([("create", 5, 3)], 0, ("lots_without_hide", hide), -2)


class LotsWithHideTest(RequestCase):

    def check_with(self, limits, hides, measures, count):
        self.check_asked(limits, hides, ("lots_with_hide", *measures), [count])

    def test_with_no_hides(self):
        self.check((("create", 5, 3), [0]), (("lots_with_hide", 0, 20, 10), [1]), (("hide_order",), [0]))
        self.check_with((0, 1), [], (2, 60, 60), 1)

    def test_a_hide_that_fits_in(self):
        self.check_with((5, 3), row(20, 25), (1, 22, 9), 1)
        self.check_with((5, 3), row(20, 25), (1, 20, 9), 1)
        self.check_with((5, 3), row(20, 25), (1, 25, 9), 1)

    def test_a_hide_that_does_not_fit_in(self):
        self.check_with((5, 3), row(20, 25), (1, 19, 9), 2)
        self.check_with((5, 3), row(20, 25), (1, 26, 9), 2)
        self.check_with((5, 3), row(20, 25), (0, 22, 9), 2)
        self.check_with((5, 3), row(20, 25), (2, 22, 9), 2)
        self.check_with((5, 2), row(20, 25), (1, 22, 9), 2)

    def test_a_hide_that_is_equal_to_others(self):
        self.check_with((0, 3), row(20, 20), (1, 20, 1), 1)
        self.check_with((0, 2), row(20, 20), (1, 20, 1), 2)
        self.check_with((0, 3), row(20, 20, 20), (1, 20, 1), 2)
        self.check_with((0, 1), row(20), (1, 20, 1), 2)

    def test_it_may_close_a_lot_sooner_without_one_more_lot(self):
        self.check_with((4, 12), row(10, 14, 15), (1, 9, 1), 2)
        self.check_with((60, 2), row(10, 11, 12), (1, 9, 1), 2)

    def test_with_twelve_hides(self):
        full = row(*[30] * 12)
        self.check_with((0, 12), full, (1, 30, 1), 2)
        self.check_with((0, 11), full, (1, 30, 1), 2)
        self.check_with((0, 12), full, (0, 30, 1), 2)
        self.check_with((0, 1), full, (1, 30, 1), 13)
        self.check_with((2, 6), full, (1, 32, 60), 3)
        self.check_last(begun((0, 12), full), (("lots_with_hide", 1, 30, 1), [2]), (("add_hide", 1, 30, 1), [-28]),
                        (("status",), [12, 0, 12, 12]))

    def test_the_area_is_of_no_account(self):
        for area in (1, 2, 59, 60):
            self.check_with((5, 3), SOME, (0, 25, area), 3)

    def test_measures_at_the_edges_are_taken(self):
        for measures, count in [((0, 1, 1), 4), ((1, 1, 60), 3), ((2, 60, 1), 3), ((2, 60, 60), 3), ((2, 1, 1), 4)]:
            self.check_with((5, 3), SOME, measures, count)

    def test_measures_beyond_the_edges_are_refused(self):
        for measures in WRONG_MEASURES:
            with self.subTest(measures=measures):
                self.check_refused([("create", 5, 3)], 0, ("lots_with_hide", *measures), -22)
                self.check_refused(begun((5, 3), SOME), 4, ("lots_with_hide", *measures), -22)
                self.check_refused(begun((5, 3), [(0, 20, 1)] * 12), 12, ("lots_with_hide", *measures), -22)

    def check_growth(self, limits, hides, additional):
        asked = [call for measures in additional for call in (("lots_with_hide", *measures), ("add_hide", *measures),
                                                              ("fewest_lots",), ("remove_hide", len(hides)))]
        begin = begun(limits, hides)
        given = ask(*begin, ("fewest_lots",), *asked)[len(begin):]
        for place in range(len(additional)):
            told, _, counted, _ = given[1 + 4 * place:5 + 4 * place]
            self.assertEqual(told, counted, (limits, hides, additional[place]))
            self.assertIn(told[0] - given[0][0], (0, 1), (limits, hides, additional[place]))

    def test_it_is_as_if_the_hide_were_added_and_never_a_lot_less_and_at_most_a_lot_more(self):
        choice = [(kind, thickness, 1) for kind in (1, 0) for thickness in (13, 10, 14, 17)]
        for hides in itertools.combinations_with_replacement(choice, 4):
            for limits in ((0, 2), (3, 2), (3, 4), (4, 3)):
                self.check_growth(limits, list(hides), choice)

    def test_the_same_without_and_with(self):
        for step in range(1, 40):
            hides = [(number * step % 7 % 2, 1 + number * number * step % 60, 1) for number in range(12)]
            for limits in ((0, 12), (7, 2), (15, 3), (30, 12), (60, 4)):
                asked = [("lots_without_hide", hide) for hide in range(12)]
                asked += [("lots_with_hide", *measures) for measures in hides]
                counts = ask(*begun(limits, hides), ("fewest_lots",), *asked)[13:]
                whole = counts[0][0]
                for count in counts[1:13]:
                    self.assertIn(whole - count[0], (0, 1), (limits, hides))
                for count in counts[13:]:
                    self.assertIn(count[0] - whole, (0, 1), (limits, hides))


class StatusTest(RequestCase):

    def test_behind_each_kind_of_change(self):
        self.check(
            (("create", 5, 3), [0]),
            (("status",), [0, 5, 3, 0]),
            (("add_hide", 0, 20, 10), [0]),
            (("status",), [1, 5, 3, 10]),
            (("add_hide", 2, 60, 60), [1]),
            (("status",), [2, 5, 3, 70]),
            (("add_hide", 1, 1, 1), [2]),
            (("status",), [3, 5, 3, 71]),
            (("thin_hide", 1, 30), [60]),
            (("status",), [3, 5, 3, 71]),
            (("set_limits", 60, 12), [0, 5, 3]),
            (("status",), [3, 60, 12, 71]),
            (("remove_hide", 0), [2]),
            (("status",), [2, 60, 12, 61]),
            (("remove_hide", 1), [1]),
            (("status",), [1, 60, 12, 60]),
            (("create", 0, 1), [0]),
            (("status",), [0, 0, 1, 0]),
        )

    def test_behind_changes_that_were_refused(self):
        self.check_last(
            begun((5, 3), SOME),
            (("create", 61, 3), [-22]),
            (("status",), [4, 5, 3, 101]),
            (("add_hide", 3, 20, 10), [-22]),
            (("status",), [4, 5, 3, 101]),
            (("remove_hide", 4), [-2]),
            (("status",), [4, 5, 3, 101]),
            (("thin_hide", 0, 20), [-22]),
            (("status",), [4, 5, 3, 101]),
            (("set_limits", 4, 0), [-22]),
            (("status",), [4, 5, 3, 101]),
        )

    def test_twelve_hides(self):
        self.check_asked((60, 12), [(0, 1, 60)] * 12, ("status",), [12, 60, 12, 720])
        self.check_last(begun((0, 1), [(2, 60, 1)] * 12), (("add_hide", 0, 1, 1), [-28]), (("status",), [12, 0, 1, 12]))

    def test_asking_changes_nothing(self):
        self.check_asked((5, 3), SOME, ("status",), [4, 5, 3, 101])


if __name__ == "__main__":
    unittest.main()
