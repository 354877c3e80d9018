"""The best pairs of a kind."""

import itertools
import unittest

from searches import smallest_difference, smallest_without
from support import GREATEST, RequestCase, ask, begun

OTHERS = [(1, 11, 3), (1, 19, 3), (2, 12, 3)]


class BestPairsTest(RequestCase):

    def check_pairs(self, thicknesses, difference, pairs, left_over=()):
        hides = [(0, thickness, 1) for thickness in thicknesses]
        answer = [difference, len(pairs), *[number for pair in pairs for number in pair], *left_over]
        self.check_asked((5, 3), hides, ("best_pairs", 0), answer)
        self.check_asked((0, 1), [*hides, *OTHERS], ("best_pairs", 0), answer)

    def test_no_hides_at_all(self):
        for kind in (0, 1, 2):
            self.check((("create", 5, 3), [0]), (("best_pairs", kind), [0, 0]))
            self.check_asked((5, 3), [], ("best_pairs", kind), [0, 0])

    def test_no_hides_of_the_kind(self):
        for kind in (0, 1, 2):
            others = [(other, 20, 5) for other in (0, 1, 2, 2, 1, 0) if other != kind]
            self.check_asked((5, 3), others, ("best_pairs", kind), [0, 0])

    def test_one_hide(self):
        self.check_pairs([30], 0, [], [0])
        self.check_asked((5, 3), [*OTHERS, (0, 30, 1)], ("best_pairs", 0), [0, 0, 3])

    def test_two_hides(self):
        self.check_pairs([30, 34], 4, [(0, 1)])
        self.check_pairs([34, 30], 4, [(1, 0)])
        self.check_pairs([30, 30], 0, [(0, 1)])
        self.check_pairs([60, 1], 59, [(1, 0)])

    def test_an_even_number(self):
        self.check_pairs([10, 13, 20, 21], 4, [(0, 1), (2, 3)])
        self.check_pairs([21, 10, 20, 13], 4, [(1, 3), (2, 0)])
        self.check_pairs([10, 20, 21, 30], 19, [(0, 1), (2, 3)])
        self.check_pairs([9, 8, 7, 6, 5, 4], 3, [(5, 4), (3, 2), (1, 0)])

    def test_an_odd_number(self):
        self.check_pairs([10, 20, 21], 1, [(1, 2)], [0])
        self.check_pairs([10, 12, 20], 2, [(0, 1)], [2])
        self.check_pairs([20, 12, 10], 2, [(2, 1)], [0])
        self.check_pairs([10, 11, 20, 30, 31], 2, [(0, 1), (3, 4)], [2])
        self.check_pairs([31, 20, 11, 30, 10], 2, [(4, 2), (3, 0)], [1])

    def test_where_several_give_the_same_sum_the_first_is_left_over(self):
        self.check_pairs([10, 12, 14], 2, [(1, 2)], [0])
        self.check_pairs([14, 12, 10], 2, [(1, 0)], [2])
        self.check_pairs([10, 10, 10], 0, [(1, 2)], [0])
        self.check_pairs([10, 10, 10, 20, 20], 0, [(1, 2), (3, 4)], [0])
        self.check_pairs([1, 2, 10, 10, 10], 1, [(0, 1), (3, 4)], [2])
        self.check_pairs([10, 2, 10, 1, 10], 1, [(3, 1), (2, 4)], [0])
        self.check_pairs([1, 2, 3, 4, 5], 2, [(1, 2), (3, 4)], [0])

    def test_the_last_hide_of_the_order_is_left_over(self):
        self.check_pairs([1, 2, 2, 2, 50], 1, [(0, 1), (2, 3)], [4])

    def test_each_kind(self):
        hides = [(0, 10, 1), (1, 10, 1), (2, 10, 1), (1, 13, 1), (2, 19, 1), (2, 11, 1), (0, 14, 1)]
        self.check_asked((5, 3), hides, ("best_pairs", 0), [4, 1, 0, 6])
        self.check_asked((5, 3), hides, ("best_pairs", 1), [3, 1, 1, 3])
        self.check_asked((5, 3), hides, ("best_pairs", 2), [1, 1, 2, 5, 4])

    def test_a_kind_that_there_is_not(self):
        for kind in (3, 4, GREATEST):
            with self.subTest(kind=kind):
                self.check_refused(begun((5, 3), OTHERS), 3, ("best_pairs", kind), -22)
                self.check_refused([("create", 5, 3)], 0, ("best_pairs", kind), -22)

    def test_twelve_and_eleven_hides(self):
        self.check_asked((5, 3), [(2, 60 - number, 1) for number in range(12)], ("best_pairs", 2),
                         [6, 6, *range(11, -1, -1)])
        self.check_asked((5, 3), [(2, 60 - number, 1) for number in range(11)], ("best_pairs", 2),
                         [5, 5, *range(9, -1, -1), 10])

    def test_behind_changes(self):
        self.check_last(
            begun((5, 3), [(0, 10, 1), (0, 20, 1), (0, 22, 1)]),
            (("best_pairs", 0), [2, 1, 1, 2, 0]),
            (("thin_hide", 1, 11), [20]),
            (("best_pairs", 0), [1, 1, 0, 1, 2]),
            (("remove_hide", 1), [2]),
            (("best_pairs", 0), [12, 1, 0, 1]),
            (("create", 5, 3), [0]),
            (("best_pairs", 0), [0, 0]),
        )

    def check_search(self, thicknesses):
        hides = [(1, thickness, 1) for thickness in thicknesses]
        answer = ask(*begun((5, 3), hides), ("best_pairs", 1))[-1]
        count = len(hides) // 2
        paired, left_over = answer[2:2 + 2 * count], answer[2 + 2 * count:]
        sums = [abs(thicknesses[paired[place]] - thicknesses[paired[place + 1]]) for place in range(0, 2 * count, 2)]
        self.assertEqual(answer[:2], [sum(sums), count])
        self.assertEqual(sorted(paired + left_over), list(range(len(hides))))
        places = [(thicknesses[number], number) for number in paired]
        self.assertEqual(places, sorted(places))
        self.assertEqual(answer[0], smallest_difference(thicknesses), thicknesses)
        self.assertEqual(left_over, self.first_left_over(thicknesses, answer[0]), thicknesses)

    def first_left_over(self, thicknesses, smallest):
        """The first hide, in the hide order, without which the smallest sum can be had."""
        if len(thicknesses) % 2 == 0:
            return []
        order = sorted(range(len(thicknesses)), key=lambda number: (thicknesses[number], number))
        return [number for number in order if smallest_without(thicknesses, number) == smallest][:1]

    def test_against_all_ways_to_pair_a_few_hides(self):
        for count in range(1, 6):
            for thicknesses in itertools.product([13, 10, 11, 17], repeat=count):
                self.check_search(list(thicknesses))

    def test_against_all_ways_to_pair_six_and_seven_hides(self):
        for thicknesses in itertools.combinations_with_replacement([9, 3, 5, 4], 6):
            self.check_search(list(thicknesses))
        for step in range(1, 80):
            self.check_search([1 + number * number * step % 23 for number in range(7)])


if __name__ == "__main__":
    unittest.main()
