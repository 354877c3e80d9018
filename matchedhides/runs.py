"""The runs of the hide order, and the largest lot, which is a part of one of them."""

from matchedhides.inventory import area_of, hides_at
from matchedhides.lotting import any_two_match, numbers_in_order


def runs_in_order(hides, tolerance):
    """The runs by their first position and then by their length, each a list of the numbers of its hides."""
    ordered = numbers_in_order(hides)
    runs = []
    for first in range(len(ordered)):
        for behind in range(first + 1, len(ordered) + 1):
            run = ordered[first:behind]
            if any_two_match(hides_at(hides, run), tolerance):
                runs.append(run)
    return runs


def largest_part(hides, run, lot_size):
    """The hides of a run with the greatest areas, as many as a lot can have, in the order of the run."""

    def rank(place):
        return (-hides[run[place]].area, place)

    places = sorted(range(len(run)), key=rank)[:lot_size]
    return [run[place] for place in sorted(places)]


def largest_of_lots(hides, tolerance, lot_size):
    """The numbers of the hides of the largest lot; none where there are no hides."""
    largest = []
    for run in runs_in_order(hides, tolerance):
        part = largest_part(hides, run, lot_size)
        # Of parts that are equally large the first one counts.
        if area_of(hides_at(hides, part)) > area_of(hides_at(hides, largest)):
            largest = part
    return largest
