"""The calls that change the state: create, add_hide, remove_hide, set_limits, thin_hide; and get_hide."""

import unittest

from support import GREATEST, RequestCase, adding

HIDES = [(0, 20, 10), (2, 60, 60), (1, 1, 1), (0, 24, 30)]
BEGIN = [("create", 5, 3), *adding(HIDES)]
FULL = [("create", 5, 3), *adding([(number % 3, 60 - number, 1 + number) for number in range(12)])]
WRONG_LIMITS = [(61, 1), (61, 12), (0, 0), (60, 13), (61, 0), (61, 13),
                (GREATEST, 1), (0, GREATEST), (GREATEST, GREATEST)]
RIGHT_LIMITS = [(0, 1), (0, 12), (60, 1), (60, 12), (1, 2), (59, 11)]
WRONG_MEASURES = [(3, 20, 10), (0, 0, 10), (0, 61, 10), (0, 20, 0), (0, 20, 61), (3, 0, 61),
                  (GREATEST, 20, 10), (0, GREATEST, 10), (0, 20, GREATEST), (GREATEST, GREATEST, GREATEST)]


class CreateTest(RequestCase):

    def test_limits_that_are_taken(self):
        for tolerance, lot_size in RIGHT_LIMITS:
            with self.subTest(tolerance=tolerance, lot_size=lot_size):
                self.check((("create", tolerance, lot_size), [0]), (("hide_order",), [0]),
                           (("set_limits", 7, 8), [0, tolerance, lot_size]))

    def test_limits_that_are_refused(self):
        for limits in WRONG_LIMITS:
            with self.subTest(limits=limits):
                self.check((("create", *limits), [-22]), (("hide_order",), [-11]))

    def test_a_second_create_replaces_the_inventory(self):
        self.check_last(
            BEGIN,
            (("create", 60, 12), [0]),
            (("hide_order",), [0]),
            (("get_hide", 0), [-2]),
            (("fewest_lots",), [0]),
            (("add_hide", 2, 3, 4), [0]),
            (("get_hide", 0), [2, 3, 4]),
            (("set_limits", 0, 1), [0, 60, 12]),
        )

    def test_a_second_create_with_the_same_limits_has_no_hides(self):
        self.check_last(BEGIN, (("create", 5, 3), [0]), (("hide_order",), [0]), (("set_limits", 5, 3), [0, 5, 3]))

    def test_a_create_that_fails_keeps_the_inventory(self):
        for limits in WRONG_LIMITS:
            with self.subTest(limits=limits):
                self.check_refused(BEGIN, 4, ("create", *limits), -22)


class AddHideTest(RequestCase):

    def test_the_numbers_go_up_from_0_to_11(self):
        steps = [(("add_hide", 1, 30, 40), [number]) for number in range(12)]
        self.check((("create", 5, 3), [0]), *steps, (("hide_order",), [12, *range(12)]))

    def test_measures_at_the_edges_are_taken(self):
        for measures in [(0, 1, 1), (1, 1, 60), (2, 60, 1), (2, 60, 60)]:
            with self.subTest(measures=measures):
                self.check((("create", 5, 3), [0]), (("add_hide", *measures), [0]), (("get_hide", 0), list(measures)))

    def test_measures_beyond_the_edges_are_refused(self):
        for measures in WRONG_MEASURES:
            with self.subTest(measures=measures):
                self.check_refused(BEGIN, 4, ("add_hide", *measures), -22)

    def test_the_thirteenth_hide_is_refused(self):
        self.check_refused(FULL, 12, ("add_hide", 0, 20, 10), -28)

    def test_the_measures_are_looked_at_before_the_room(self):
        for measures in WRONG_MEASURES:
            with self.subTest(measures=measures):
                self.check_refused(FULL, 12, ("add_hide", *measures), -22)

    def test_there_is_room_again_behind_a_removal(self):
        self.check_last(FULL, (("add_hide", 0, 20, 10), [-28]), (("remove_hide", 4), [11]),
                        (("add_hide", 0, 20, 10), [11]), (("get_hide", 11), [0, 20, 10]),
                        (("add_hide", 0, 20, 10), [-28]))


class RemoveHideTest(RequestCase):

    def check_removed(self, hide):
        left = HIDES[:hide] + HIDES[hide + 1:]
        steps = [(("get_hide", number), list(measures)) for number, measures in enumerate(left)]
        self.check_last(BEGIN, (("remove_hide", hide), [3]), *steps, (("get_hide", 3), [-2]))

    def test_the_later_numbers_decrease_by_1(self):
        for hide in range(4):
            with self.subTest(hide=hide):
                self.check_removed(hide)

    def test_the_next_hide_has_the_number_that_became_free(self):
        self.check_last(BEGIN, (("remove_hide", 0), [3]), (("add_hide", 1, 2, 3), [3]), (("get_hide", 3), [1, 2, 3]))

    def test_until_none_is_left(self):
        self.check_last(BEGIN, (("remove_hide", 0), [3]), (("remove_hide", 2), [2]), (("remove_hide", 0), [1]),
                        (("get_hide", 0), [1, 1, 1]), (("remove_hide", 0), [0]), (("remove_hide", 0), [-2]),
                        (("hide_order",), [0]))

    def test_a_hide_that_does_not_exist(self):
        for hide in (4, 5, 12, GREATEST):
            with self.subTest(hide=hide):
                self.check_refused(BEGIN, 4, ("remove_hide", hide), -2)

    def test_with_no_hides(self):
        for hide in (0, 1, GREATEST):
            with self.subTest(hide=hide):
                self.check_refused([("create", 5, 3)], 0, ("remove_hide", hide), -2)


class GetHideTest(RequestCase):

    def test_each_hide(self):
        steps = [(("get_hide", number), list(measures)) for number, measures in enumerate(HIDES)]
        self.check_last(BEGIN, *steps, *steps)

    def test_a_hide_that_does_not_exist(self):
        for hide in (4, 12, GREATEST):
            with self.subTest(hide=hide):
                self.check_refused(BEGIN, 4, ("get_hide", hide), -2)
        self.check_refused([("create", 5, 3)], 0, ("get_hide", 0), -2)


class SetLimitsTest(RequestCase):

    def test_the_previous_limits_are_answered(self):
        self.check((("create", 5, 2), [0]), (("set_limits", 0, 1), [0, 5, 2]), (("set_limits", 60, 12), [0, 0, 1]),
                   (("set_limits", 60, 12), [0, 60, 12]), (("set_limits", 1, 3), [0, 60, 12]))

    def test_each_pair_that_is_taken(self):
        for limits in RIGHT_LIMITS:
            with self.subTest(limits=limits):
                self.check((("create", 5, 2), [0]), (("set_limits", *limits), [0, 5, 2]),
                           (("set_limits", 5, 2), [0, *limits]))

    def test_refused_limits_change_nothing(self):
        for limits in WRONG_LIMITS:
            with self.subTest(limits=limits):
                self.check_refused(BEGIN, 4, ("set_limits", *limits), -22)
                self.check((("create", 5, 2), [0]), (("set_limits", *limits), [-22]), (("set_limits", 1, 1), [0, 5, 2]))

    def test_the_hides_stay(self):
        steps = [(("get_hide", number), list(measures)) for number, measures in enumerate(HIDES)]
        self.check_last(BEGIN, (("set_limits", 0, 1), [0, 5, 3]), *steps, (("get_hide", 4), [-2]))

    def test_the_new_limits_are_in_force(self):
        self.check_last(
            BEGIN,
            (("are_compatible", 0, 3), [1]), (("is_lot", 0, 3), [1]), (("fewest_lots",), [3]),
            (("set_limits", 3, 3), [0, 5, 3]),
            (("are_compatible", 0, 3), [0]), (("is_lot", 0, 3), [0]), (("fewest_lots",), [4]),
            (("set_limits", 4, 1), [0, 3, 3]),
            (("are_compatible", 0, 3), [1]), (("is_lot", 0, 3), [0]), (("fewest_lots",), [4]),
        )


class ThinHideTest(RequestCase):

    def test_the_previous_thickness_is_answered(self):
        self.check_last(BEGIN, (("thin_hide", 3, 23), [24]), (("get_hide", 3), [0, 23, 30]),
                        (("thin_hide", 3, 1), [23]), (("get_hide", 3), [0, 1, 30]),
                        (("get_hide", 0), [0, 20, 10]), (("get_hide", 1), [2, 60, 60]), (("get_hide", 2), [1, 1, 1]))

    def test_thicknesses_that_are_refused(self):
        for hide, thickness in [(0, 0), (0, 20), (0, 21), (0, 61), (0, GREATEST), (1, 60), (1, 61), (2, 0), (2, 1)]:
            with self.subTest(hide=hide, thickness=thickness):
                self.check_refused(BEGIN, 4, ("thin_hide", hide, thickness), -22)

    def test_the_hide_is_looked_at_before_the_thickness(self):
        for hide in (4, 12, GREATEST):
            for thickness in (0, 1, 20, 61, GREATEST):
                with self.subTest(hide=hide, thickness=thickness):
                    self.check_refused(BEGIN, 4, ("thin_hide", hide, thickness), -2)
        self.check_refused([("create", 5, 3)], 0, ("thin_hide", 0, 0), -2)

    def test_what_was_refused_for_its_new_thickness_is_held_against_that(self):
        self.check_last(BEGIN, (("thin_hide", 0, 10), [20]), (("thin_hide", 0, 10), [-22]),
                        (("thin_hide", 0, 15), [-22]), (("thin_hide", 0, 9), [10]))


if __name__ == "__main__":
    unittest.main()
