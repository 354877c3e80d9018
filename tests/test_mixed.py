"""Requests that mix all calls: some written out, and many made ones against the model."""

import unittest

from matchedhides.lots import answers
from model import Model
from support import CALLS, GREATEST, RequestCase, begun, parted, told_answers, told_calls

SOME = [(0, 20, 10), (2, 60, 60), (1, 1, 1), (0, 24, 30)]


class Draws:
    """Numbers that are the same in every run."""

    def __init__(self, seed):
        self.state = seed

    def below(self, count):
        self.state = (self.state * 6364136223846793005 + 1442695040888963407) % 2 ** 64
        return (self.state >> 33) % count

    def one_of(self, choice):
        return choice[self.below(len(choice))]


def drawn_measures(draws):
    """A hide, close to others, that is now and then outside the limits."""
    if draws.below(12) == 0:
        return draws.one_of([(3, 20, 5), (0, 0, 5), (1, 61, 5), (2, 20, 0), (0, 20, 61), (GREATEST, 0, 0)])
    thickness = draws.one_of([1 + draws.below(60), 20 + draws.below(8), 20 + draws.below(8)])
    return (draws.below(draws.one_of([1, 2, 3])), thickness, 1 + draws.below(draws.one_of([4, 60])))


def drawn_limits(draws):
    """Limits that are now and then wrong."""
    return (draws.one_of([0, 1, 2, 3, 5, 8, 30, 59, 60, 61, GREATEST]), draws.one_of([1, 2, 2, 3, 3, 4, 6, 12, 0, 13]))


def drawn_hide(draws):
    return draws.one_of([draws.below(4), draws.below(8), draws.below(14), draws.below(14), GREATEST])


def drawn_hides(draws):
    """Some hides, mostly different ones."""
    first, step = draws.below(5), draws.one_of([1, 1, 1, 2, 0])
    return [first + step * place for place in range(draws.one_of([0, 1, 2, 2, 3, 3, 4, 12, 14]))]


def drawn_arguments(draws, name):
    if name in ("create", "set_limits"):
        return drawn_limits(draws)
    if name in ("add_hide", "lots_with_hide"):
        return drawn_measures(draws)
    if name in ("remove_hide", "get_hide", "lots_without_hide"):
        return (drawn_hide(draws),)
    if name == "thin_hide":
        return (drawn_hide(draws), draws.one_of([0, 1, 20 + draws.below(6), 1 + draws.below(60), GREATEST]))
    if name == "are_compatible":
        return (drawn_hide(draws), drawn_hide(draws))
    if name in ("is_lot", "total_area"):
        return drawn_hides(draws)
    if name == "best_pairs":
        return (draws.one_of([0, 0, 0, 1, 1, 2, 3, GREATEST]),)
    if name == "least_tolerance":
        return (draws.one_of([0, 1, 2, 3, 4, 5, 6, 8, 12, GREATEST]),)
    return ()


def drawn_request(seed):
    """A request of up to 60 calls in which create is seldom and add_hide is often."""
    draws = Draws(seed)
    names = [name for name in CALLS if name != "create"]
    calls = []
    for place in range(1 + draws.below(60)):
        often = 1 if place == 0 else 40
        name = draws.one_of(["create", *["add_hide", draws.one_of(names), draws.one_of(names)] * often])
        calls.append((name, *drawn_arguments(draws, name)))
    if draws.below(10) > 0:
        calls[0] = ("create", draws.one_of([0, 1, 2, 3, 5, 8, 30, 60]), 1 + draws.below(12))
    return calls


class MadeRequestsTest(unittest.TestCase):

    SEEDS = range(1, 2001)

    def test_each_answer_is_the_one_of_the_model(self):
        for seed in self.SEEDS:
            calls = drawn_request(seed)
            model = Model()
            expected = [model.ask(*call) for call in calls]
            self.assertEqual(answers(told_calls(calls)), told_answers(expected), calls)

    def test_the_requests_mix_all_calls_with_all_their_answers(self):
        seen = {}
        self.assertEqual(max(len(drawn_request(seed)) for seed in self.SEEDS), 60)
        for seed in self.SEEDS:
            model = Model()
            for call in drawn_request(seed):
                answer = model.ask(*call)
                told = seen.setdefault((call[0], min(answer[0], 0)), [])
                told.append(answer)
        for name in CALLS:
            self.assertGreater(len(seen[name, 0]), 20, name)
            if name != "create":
                self.assertGreater(len(seen[name, -11]), 20, name)
        for name, code in [("create", -22), ("add_hide", -22), ("add_hide", -28), ("remove_hide", -2),
                           ("get_hide", -2), ("set_limits", -22), ("thin_hide", -2), ("thin_hide", -22),
                           ("are_compatible", -2), ("is_lot", -22), ("largest_lot", -33), ("total_area", -22),
                           ("best_pairs", -22), ("least_tolerance", -33), ("lots_without_hide", -2),
                           ("lots_with_hide", -22)]:
            self.assertGreater(len(seen[name, code]), 20, (name, code))

    def test_a_number_below_0_is_a_refusal_alone(self):
        for seed in self.SEEDS:
            for answer in parted(answers(told_calls(drawn_request(seed)))):
                if min(answer) < 0:
                    self.assertIn(answer, ([-11], [-2], [-22], [-28], [-33]))

    def test_what_is_handed_in_stands_as_it_was(self):
        for seed in self.SEEDS:
            calls = told_calls(drawn_request(seed))
            before = list(calls)
            given = answers(calls)
            self.assertEqual(calls, before)
            self.assertEqual(answers(calls), given)


class WrittenRequestsTest(RequestCase):

    def test_all_nineteen_calls(self):
        self.check(
            (("status",), [-11]),
            (("create", 4, 2), [0]),
            (("add_hide", 1, 30, 7), [0]),
            (("add_hide", 1, 33, 20), [1]),
            (("add_hide", 0, 33, 5), [2]),
            (("add_hide", 1, 34, 9), [3]),
            (("add_hide", 1, 38, 20), [4]),
            (("add_hide", 1, 33, 20), [5]),
            (("hide_order",), [6, 2, 0, 1, 5, 3, 4]),
            (("get_hide", 3), [1, 34, 9]),
            (("status",), [6, 4, 2, 81]),
            (("are_compatible", 0, 3), [1]),
            (("are_compatible", 0, 4), [0]),
            (("is_lot", 5, 1), [1]),
            (("is_lot", 5, 1, 0), [0]),
            (("fewest_lots",), [4]),
            (("greedy_lots",), [4, 1, 2, 2, 0, 1, 2, 5, 3, 1, 4]),
            (("incompatible_hides",), [3, 2, 0, 4]),
            (("largest_lot",), [40, 2, 1, 5]),
            (("total_area", 5, 0, 2), [32]),
            (("best_pairs", 1), [4, 2, 1, 5, 3, 4, 0]),
            (("best_pairs", 0), [0, 0, 2]),
            (("best_pairs", 2), [0, 0]),
            (("least_tolerance", 4), [3]),
            (("least_tolerance", 3), [-33]),
            (("lots_without_hide", 0), [3]),
            (("lots_without_hide", 2), [3]),
            (("lots_with_hide", 0, 35, 1), [4]),
            (("lots_with_hide", 2, 35, 1), [5]),
            (("set_limits", 4, 3), [0, 4, 2]),
            (("greedy_lots",), [3, 1, 2, 3, 0, 1, 5, 2, 3, 4]),
            (("largest_lot",), [49, 3, 1, 5, 3]),
            (("thin_hide", 4, 35), [38]),
            (("largest_lot",), [60, 3, 1, 5, 4]),
            (("remove_hide", 0), [5]),
            (("status",), [5, 4, 3, 74]),
            (("greedy_lots",), [3, 1, 1, 3, 0, 4, 2, 1, 3]),
            (("incompatible_hides",), [2, 1, 0]),
            (("best_pairs", 1), [1, 2, 0, 4, 2, 3]),
            (("create", 4, 0), [-22]),
            (("status",), [5, 4, 3, 74]),
            (("create", 0, 1), [0]),
            (("status",), [0, 0, 1, 0]),
            (("largest_lot",), [-33]),
        )

    def test_no_refusal_leaves_anything_behind(self):
        refused = [
            (("create", 61, 3), -22), (("add_hide", 3, 20, 10), -22), (("remove_hide", 4), -2), (("get_hide", 4), -2),
            (("set_limits", 5, 13), -22), (("thin_hide", 4, 1), -2), (("thin_hide", 0, 20), -22),
            (("are_compatible", 0, 4), -2), (("is_lot", 0, 0), -22), (("is_lot", 4), -22), (("total_area", 0, 0), -22),
            (("total_area", 4), -22), (("best_pairs", 3), -22), (("least_tolerance", 2), -33),
            (("lots_without_hide", 4), -2), (("lots_with_hide", 3, 20, 10), -22),
        ]
        asked = [(("status",), [4, 5, 3, 101]), (("greedy_lots",), [3, 2, 0, 3, 1, 2, 1, 1])]
        for call, code in refused:
            with self.subTest(call=call):
                self.check_refused(begun((5, 3), SOME), 4, call, code)
        for half in (refused[:8], refused[8:]):
            self.check_last(begun((5, 3), SOME), *[step for call, code in half for step in [(call, [code]), *asked]])

    def test_what_only_asks_leaves_nothing_behind(self):
        asking = [("get_hide", 0), ("hide_order",), ("are_compatible", 0, 3), ("is_lot", 3, 0), ("fewest_lots",),
                  ("greedy_lots",), ("incompatible_hides",), ("largest_lot",), ("total_area", 2, 1), ("best_pairs", 0),
                  ("least_tolerance", 3), ("lots_without_hide", 0), ("lots_with_hide", 0, 22, 3), ("status",)]
        once = [[0, 20, 10], [4, 0, 3, 2, 1], [1], [1], [3], [3, 2, 0, 3, 1, 2, 1, 1], [3, 0, 2, 1], [60, 1, 1], [61],
                [4, 1, 0, 3], [4], [3], [3], [4, 5, 3, 101]]
        self.check_last(begun((5, 3), SOME), *list(zip(asking, once, strict=True)) * 3)


if __name__ == "__main__":
    unittest.main()
