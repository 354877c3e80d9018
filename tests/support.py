"""What the tests share: calls told by their names, and answers in the form of the interface."""

import unittest

from matchedhides.lots import answers

CALLS = {
    "create": (0, 2),
    "add_hide": (1, 3),
    "remove_hide": (2, 1),
    "get_hide": (3, 1),
    "set_limits": (4, 2),
    "thin_hide": (5, 2),
    "hide_order": (6, 0),
    "are_compatible": (7, 2),
    "is_lot": (8, None),
    "fewest_lots": (9, 0),
    "greedy_lots": (10, 0),
    "incompatible_hides": (11, 0),
    "largest_lot": (12, 0),
    "total_area": (13, None),
    "best_pairs": (14, 1),
    "least_tolerance": (15, 1),
    "lots_without_hide": (16, 1),
    "lots_with_hide": (17, 3),
    "status": (18, 0),
}

GREATEST = 4294967295


def told_call(name, *numbers):
    """One call in the form of the interface."""
    operation, count = CALLS[name]
    assert count is None or count == len(numbers), name
    return [operation, len(numbers), *numbers, 0]


def told_calls(calls):
    """One request in the form of the interface."""
    assert 1 <= len(calls) <= 60
    told = [number for call in calls for number in told_call(*call)]
    assert len(told) <= 1020
    return told


def told_answers(expected):
    """The answers of one request in the form of the interface."""
    return [number for answer in expected for number in [len(answer), *answer]]


def parted(told):
    """The answers of one request, each a list of its own."""
    given = []
    place = 0
    while place < len(told):
        count = told[place]
        given.append(told[place + 1:place + 1 + count])
        place += 1 + count
    return given


def ask(*calls):
    """What each call of one request answers."""
    return parted(answers(told_calls(calls)))


def adding(hides):
    """The calls that add these hides."""
    return [("add_hide", *hide) for hide in hides]


def begun(limits, hides):
    """The calls that create an inventory with these limits and hides."""
    return [("create", *limits), *adding(hides)]


def snapshot(hide_count):
    """Calls that tell the whole state."""
    calls = [("get_hide", hide) for hide in range(hide_count + 1)]
    return [*calls, ("hide_order",), ("greedy_lots",), ("status",)]


class RequestCase(unittest.TestCase):
    """A test that compares all that a request answers."""

    def check(self, *steps):
        """Each step is a call and the numbers of its answer."""
        calls = told_calls([call for call, _ in steps])
        self.assertEqual(answers(calls), told_answers([answer for _, answer in steps]))

    def check_last(self, begin, *steps):
        """The same behind calls whose answers other tests look at."""
        given = ask(*begin, *[call for call, _ in steps])
        self.assertEqual(given[len(begin):], [answer for _, answer in steps])

    def check_kept(self, begin, hide_count, call, answer):
        """The call answers so, and the state stands as it was."""
        told = snapshot(hide_count)
        without = ask(*begin, *told)[len(begin):]
        given = ask(*begin, call, *told)[len(begin):]
        self.assertEqual(given[0], answer)
        self.assertEqual(given[1:], without)

    def check_refused(self, begin, hide_count, call, code):
        """The call answers the code alone, and the state stands as it was."""
        self.check_kept(begin, hide_count, call, [code])

    def check_asked(self, limits, hides, call, answer):
        """With these limits and hides the call answers so, and the state stands as it was."""
        self.check_kept(begun(limits, hides), len(hides), call, answer)
