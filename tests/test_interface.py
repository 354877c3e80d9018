"""The form of a request and of its answers, and that nothing is changed or kept."""

import ast
import pathlib
import unittest

import matchedhides
from matchedhides.lots import answers
from support import CALLS, GREATEST, RequestCase, adding, ask, told_answers, told_calls


class Untouchable(list):
    """A list that fails as soon as something tries to change it."""

    def refuse(self, *_, **__):
        raise AssertionError("what was handed in is changed")

    append = clear = extend = insert = pop = remove = reverse = sort = refuse
    __setitem__ = __delitem__ = __iadd__ = __imul__ = refuse


class FormTest(unittest.TestCase):

    def test_each_call_as_written_in_the_list(self):
        calls = [
            0, 2, 5, 2, 0,
            1, 3, 0, 20, 10, 0,
            1, 3, 1, 24, 30, 0,
            3, 1, 1, 0,
            4, 2, 6, 3, 0,
            5, 2, 1, 19, 0,
            6, 0, 0,
            7, 2, 0, 1, 0,
            8, 0, 0,
            8, 2, 0, 1, 0,
            9, 0, 0,
            10, 0, 0,
            11, 0, 0,
            12, 0, 0,
            13, 0, 0,
            13, 2, 1, 0, 0,
            14, 1, 0, 0,
            15, 1, 1, 0,
            15, 1, 2, 0,
            16, 1, 0, 0,
            17, 3, 0, 21, 1, 0,
            18, 0, 0,
            2, 1, 0, 0,
        ]
        self.assertEqual(answers(calls), [
            1, 0,
            1, 0,
            1, 1,
            3, 1, 24, 30,
            3, 0, 5, 2,
            1, 24,
            3, 2, 0, 1,
            1, 0,
            1, 1,
            1, 0,
            1, 2,
            5, 2, 1, 0, 1, 1,
            3, 2, 0, 1,
            3, 30, 1, 1,
            1, 0,
            1, 40,
            3, 0, 0, 0,
            1, -33,
            1, 0,
            1, 1,
            1, 2,
            4, 2, 6, 3, 40,
            1, 1,
        ])

    def test_the_answer_is_a_list_of_whole_numbers(self):
        calls = [("create", 5, 2), ("add_hide", 0, 20, 10), ("are_compatible", 0, 0), ("is_lot", 0), ("is_lot", 0, 0),
                 ("hide_order",), ("fewest_lots",), ("set_limits", 0, 1), ("greedy_lots",), ("incompatible_hides",),
                 ("largest_lot",), ("total_area", 0), ("total_area",), ("best_pairs", 0), ("best_pairs", 1),
                 ("least_tolerance", 1), ("least_tolerance", 0), ("lots_without_hide", 0),
                 ("lots_with_hide", 0, 20, 10), ("status",)]
        given = answers(told_calls(calls))
        self.assertIs(type(given), list)
        self.assertEqual({type(number) for number in given}, {int})

    def test_a_refusal_is_its_code_alone(self):
        self.assertEqual(answers([3, 1, 0, 0]), [1, -11])
        self.assertEqual(answers([0, 2, 61, 1, 0]), [1, -22])
        self.assertEqual(answers([0, 2, 5, 1, 0, 3, 1, 0, 0]), [1, 0, 1, -2])
        self.assertEqual(answers([0, 2, 5, 1, 0, 12, 0, 0]), [1, 0, 1, -33])

    def test_a_request_of_one_call(self):
        self.assertEqual(answers([0, 2, 60, 12, 0]), [1, 0])
        self.assertEqual(answers([9, 0, 0]), [1, -11])
        self.assertEqual(answers([8, 0, 0]), [1, -11])

    def test_a_request_of_sixty_calls(self):
        hides = [(number % 3, 1 + number, 60 - number) for number in range(12)]
        begin = [("create", 60, 12), *adding(hides)]
        asked = [("get_hide", number % 12) for number in range(47)]
        expected = [[0], *[[number] for number in range(12)], *[list(hides[number % 12]) for number in range(47)]]
        calls = told_calls([*begin, *asked])
        self.assertEqual(answers(calls), told_answers(expected))

    def test_the_longest_request(self):
        for name in ("is_lot", "total_area"):
            calls = told_calls([(name, *range(14))] * 60)
            self.assertEqual(len(calls), 1020)
            self.assertEqual(answers(calls), [1, -11] * 60)


class NothingKeptTest(RequestCase):

    def request(self):
        return told_calls([
            ("create", 5, 3), ("add_hide", 0, 20, 10), ("add_hide", 1, 20, 10), ("is_lot", 1, 0), ("is_lot", 1, 1),
            ("greedy_lots",), ("incompatible_hides",), ("largest_lot",), ("total_area", 1, 0), ("total_area", 7),
            ("best_pairs", 0), ("best_pairs", 3), ("least_tolerance", 2), ("least_tolerance", 1),
            ("lots_without_hide", 0), ("lots_without_hide", 2), ("lots_with_hide", 1, 20, 10),
            ("lots_with_hide", 3, 0, 0), ("status",), ("get_hide", 0), ("are_compatible", 0, 1),
            ("set_limits", 4, 2), ("thin_hide", 0, 12), ("remove_hide", 1), ("hide_order",), ("fewest_lots",),
        ])

    def test_what_is_handed_in_is_not_changed(self):
        calls = self.request()
        answers(calls)
        self.assertEqual(calls, self.request())

    def test_what_is_handed_in_is_not_changed_for_a_while(self):
        self.assertEqual(answers(Untouchable(self.request())), answers(self.request()))

    def test_what_is_given_back_is_new_each_time(self):
        first = answers(self.request())
        again = list(first)
        first.append(7)
        self.assertEqual(answers(self.request()), again)

    def test_a_request_begins_without_an_inventory(self):
        self.assertEqual(ask(("create", 5, 3), ("add_hide", 0, 20, 10))[-1], [0])
        self.assertEqual(ask(("get_hide", 0)), [[-11]])
        self.assertEqual(ask(("create", 0, 1), ("hide_order",)), [[0], [0]])
        self.assertEqual(ask(("set_limits", 0, 1)), [[-11]])
        self.assertEqual(ask(("create", 5, 3), ("add_hide", 0, 20, 10), ("status",))[-1], [1, 5, 3, 10])
        self.assertEqual(ask(("status",), ("greedy_lots",), ("largest_lot",)), [[-11]] * 3)
        self.assertEqual(ask(("create", 0, 1), ("status",), ("greedy_lots",), ("largest_lot",)),
                         [[0], [0, 0, 1, 0], [0], [-33]])


class NoInventoryTest(RequestCase):

    CALLS = [
        ("add_hide", 0, 20, 10), ("add_hide", 3, 0, 61), ("add_hide", GREATEST, GREATEST, GREATEST),
        ("remove_hide", 0), ("remove_hide", GREATEST),
        ("get_hide", 0), ("get_hide", 12), ("get_hide", GREATEST),
        ("set_limits", 5, 3), ("set_limits", 61, 3), ("set_limits", 5, 0), ("set_limits", GREATEST, GREATEST),
        ("thin_hide", 0, 5), ("thin_hide", 0, 0), ("thin_hide", GREATEST, GREATEST),
        ("hide_order",),
        ("are_compatible", 0, 0), ("are_compatible", 0, GREATEST),
        ("is_lot",), ("is_lot", 0), ("is_lot", 0, 0), ("is_lot", GREATEST), ("is_lot", *range(14)),
        ("fewest_lots",),
        ("greedy_lots",),
        ("incompatible_hides",),
        ("largest_lot",),
        ("total_area",), ("total_area", 0), ("total_area", 0, 0), ("total_area", GREATEST), ("total_area", *range(14)),
        ("best_pairs", 0), ("best_pairs", 3), ("best_pairs", GREATEST),
        ("least_tolerance", 0), ("least_tolerance", 1), ("least_tolerance", GREATEST),
        ("lots_without_hide", 0), ("lots_without_hide", 12), ("lots_without_hide", GREATEST),
        ("lots_with_hide", 0, 20, 10), ("lots_with_hide", 3, 0, 61), ("lots_with_hide", GREATEST, GREATEST, GREATEST),
        ("status",),
    ]

    def test_each_call_but_create_is_here(self):
        self.assertEqual({call[0] for call in self.CALLS}, set(CALLS) - {"create"})

    def test_each_call_ahead_of_any_create(self):
        for call in self.CALLS:
            with self.subTest(call=call):
                self.check((call, [-11]))

    def test_each_call_behind_a_create_that_failed(self):
        for call in self.CALLS:
            for limits in ((61, 1), (0, 0), (0, 13)):
                with self.subTest(call=call, limits=limits):
                    self.check((("create", *limits), [-22]), (call, [-11]))

    def test_a_call_that_failed_so_leaves_no_inventory(self):
        for call in self.CALLS:
            self.check((call, [-11]), *[(other, [-11]) for other in self.CALLS])

    def test_a_create_behind_such_a_call(self):
        self.check((("add_hide", 0, 20, 10), [-11]), (("create", 5, 3), [0]), (("hide_order",), [0]),
                   (("set_limits", 1, 1), [0, 5, 3]))


class SourceTest(unittest.TestCase):

    def trees(self):
        folder = pathlib.Path(matchedhides.__file__).parent
        found = [ast.parse(path.read_text(encoding="utf-8")) for path in sorted(folder.iterdir())]
        self.assertGreater(len(found), 1)
        return [node for tree in found for node in ast.walk(tree)]

    def test_it_imports_nothing_but_its_own(self):
        for node in self.trees():
            self.assertNotIsInstance(node, ast.Import)
            if isinstance(node, ast.ImportFrom):
                self.assertEqual((node.level, node.module.split(".")[0]), (0, "matchedhides"))

    def test_it_prints_and_reads_nothing(self):
        names = {node.id for node in self.trees() if isinstance(node, ast.Name)}
        self.assertEqual(names & {"print", "input", "open", "exec", "eval", "__import__"}, set())


class ExampleTest(RequestCase):

    def test_the_example_of_the_document(self):
        self.check(
            (("create", 5, 2), [0]),
            (("add_hide", 0, 20, 10), [0]),
            (("add_hide", 0, 24, 30), [1]),
            (("add_hide", 0, 27, 20), [2]),
            (("add_hide", 1, 20, 5), [3]),
            (("are_compatible", 0, 2), [0]),
            (("greedy_lots",), [3, 2, 0, 1, 1, 2, 1, 3]),
            (("incompatible_hides",), [3, 0, 2, 3]),
            (("largest_lot",), [50, 2, 1, 2]),
            (("best_pairs", 0), [3, 1, 1, 2, 0]),
            (("thin_hide", 2, 24), [27]),
            (("fewest_lots",), [3]),
            (("lots_without_hide", 3), [2]),
            (("thin_hide", 0, 20), [-22]),
        )


if __name__ == "__main__":
    unittest.main()
