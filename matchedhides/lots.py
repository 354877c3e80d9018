"""The requests: calls in one list of whole numbers, and what they answer."""

from matchedhides.inventory import Request
from matchedhides.operations import result_of
from matchedhides.refusals import NoInventory, NoSuchHide, NothingFound, OutsideLimits, TooManyHides


def answer_of(request, operation, numbers):
    """What one call answers: its result, or the code of its refusal alone."""
    try:
        return result_of(request, operation, numbers)
    except NoInventory:
        return [-11]
    except NoSuchHide:
        return [-2]
    except OutsideLimits:
        return [-22]
    except TooManyHides:
        return [-28]
    except NothingFound:
        return [-33]


def answers(calls):
    """Answer the calls of one request, each answer behind the count of its numbers."""
    request = Request()
    told = []
    place = 0
    while place < len(calls):
        first = place + 2
        behind = first + calls[place + 1]
        answer = answer_of(request, calls[place], calls[first:behind])
        told.append(len(answer))
        told.extend(answer)
        # Behind the numbers stands how many lists the call has, which is always 0.
        place = behind + 1
    return told
