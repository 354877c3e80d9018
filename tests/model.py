"""The document told a second time, for requests that mix all calls. A hide is (kind, thickness, area) here."""

import itertools

FULL = 12
GREATEST = 60


def within(low, number, high):
    return low <= number <= high


def limits_right(tolerance, lot_size):
    return within(0, tolerance, GREATEST) and within(1, lot_size, FULL)


def measures_right(kind, thickness, area):
    return within(0, kind, 2) and within(1, thickness, GREATEST) and within(1, area, GREATEST)


def sorted_numbers(hides):
    return [number for _, _, number in sorted((hide[0], hide[1], number) for number, hide in enumerate(hides))]


def greedy(hides, tolerance, lot_size):
    """The greedy lots; the first hide of a lot is the thinnest one, so it alone is looked at."""
    lots = []
    for number in sorted_numbers(hides):
        kind, thickness, _ = hides[number]
        if lots and len(lots[-1]) < lot_size:
            first = hides[lots[-1][0]]
            if first[0] == kind and thickness <= first[1] + tolerance:
                lots[-1].append(number)
                continue
        lots.append([number])
    return lots


def sum_of_pairs(hides, numbers):
    return sum(hides[other][1] - hides[one][1] for one, other in zip(numbers[::2], numbers[1::2]))


class Model:
    """What each call of one request answers."""

    def __init__(self):
        self.hides = None
        self.limits = None

    def ask(self, name, *numbers):
        if name != "create" and self.hides is None:
            return [-11]
        return getattr(self, name)(*numbers)

    def exist(self, *numbers):
        return all(number < len(self.hides) for number in numbers)

    def different(self, numbers):
        return self.exist(*numbers) and sorted(set(numbers)) == sorted(numbers)

    def create(self, *limits):
        if not limits_right(*limits):
            return [-22]
        self.hides, self.limits = [], limits
        return [0]

    def add_hide(self, *measures):
        if not measures_right(*measures):
            return [-22]
        if len(self.hides) == FULL:
            return [-28]
        self.hides = [*self.hides, measures]
        return [len(self.hides) - 1]

    def remove_hide(self, hide):
        if not self.exist(hide):
            return [-2]
        self.hides = [measures for number, measures in enumerate(self.hides) if number != hide]
        return [len(self.hides)]

    def get_hide(self, hide):
        return list(self.hides[hide]) if self.exist(hide) else [-2]

    def set_limits(self, *limits):
        if not limits_right(*limits):
            return [-22]
        old, self.limits = self.limits, limits
        return [0, *old]

    def thin_hide(self, hide, thickness):
        if not self.exist(hide):
            return [-2]
        kind, old, area = self.hides[hide]
        if not within(1, thickness, old - 1):
            return [-22]
        self.hides = [*self.hides[:hide], (kind, thickness, area), *self.hides[hide + 1:]]
        return [old]

    def hide_order(self):
        return [len(self.hides), *sorted_numbers(self.hides)]

    def pair_matches(self, first, second):
        one, other = self.hides[first], self.hides[second]
        return one[0] == other[0] and abs(one[1] - other[1]) <= self.limits[0]

    def are_compatible(self, first, second):
        return [int(self.pair_matches(first, second))] if self.exist(first, second) else [-2]

    def forms_lot(self, hides):
        return len(hides) <= self.limits[1] and all(self.pair_matches(*two) for two in itertools.combinations(hides, 2))

    def is_lot(self, *hides):
        return [int(self.forms_lot(hides))] if self.different(hides) else [-22]

    def fewest_lots(self):
        return [len(greedy(self.hides, *self.limits))]

    def greedy_lots(self):
        lots = greedy(self.hides, *self.limits)
        return [len(lots), *[number for lot in lots for number in [len(lot), *lot]]]

    def incompatible_hides(self):
        taken = []
        for number in sorted_numbers(self.hides):
            if not any(self.pair_matches(number, other) for other in taken[-1:]):
                taken = [*taken, number]
        return [len(taken), *taken]

    def largest_lot(self):
        if not self.hides:
            return [-33]
        order = sorted_numbers(self.hides)
        best = (0, [])
        for first, behind in itertools.combinations(range(len(order) + 1), 2):
            run = order[first:behind]
            if self.pair_matches(run[0], run[-1]):
                chosen = sorted(run, key=lambda number: -self.hides[number][2])[:self.limits[1]]
                area = sum(self.hides[number][2] for number in chosen)
                if area > best[0]:
                    best = (area, [number for number in run if number in chosen])
        return [best[0], len(best[1]), *best[1]]

    def total_area(self, *hides):
        return [sum(self.hides[number][2] for number in hides)] if self.different(hides) else [-22]

    def best_pairs(self, kind):
        if kind > 2:
            return [-22]
        order = [number for number in sorted_numbers(self.hides) if self.hides[number][0] == kind]
        if len(order) % 2 == 0:
            return [sum_of_pairs(self.hides, order), len(order) // 2, *order]
        ways = [(sum_of_pairs(self.hides, order[:place] + order[place + 1:]), place) for place in range(len(order))]
        difference, place = min(ways)
        return [difference, len(order) // 2, *order[:place], *order[place + 1:], order[place]]

    def least_tolerance(self, lot_count):
        enough = [tolerance for tolerance in range(GREATEST + 1)
                  if len(greedy(self.hides, tolerance, self.limits[1])) <= lot_count]
        return [min(enough, default=-33)]

    def lots_without_hide(self, hide):
        if not self.exist(hide):
            return [-2]
        return [len(greedy(self.hides[:hide] + self.hides[hide + 1:], *self.limits))]

    def lots_with_hide(self, *measures):
        return [len(greedy([*self.hides, measures], *self.limits))] if measures_right(*measures) else [-22]

    def status(self):
        return [len(self.hides), *self.limits, sum(area for _, _, area in self.hides)]
