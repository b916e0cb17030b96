"""Roads, posts and stretches for the tests, and answers taken word for word from the document."""

import random
import unittest
from functools import lru_cache
from itertools import combinations, product

HUGE = 10 ** 5000

# Of any kind, and none of them a whole number.
NO_NUMBERS = [True, False, None, 1.0, 0.0, float("nan"), 1j, "1", "", b"1", [1], (1,), [], (), {}, set(), object(), int]

# Of any kind, and none of them a list.
NO_LISTS = [None, True, False, 0, 1, -1, 1.5, "", "01", b"", (), (0,), ((0, 1),), {}, {0: 1}, set(), {0},
            range(1), iter([]), object(), list]


def small_roads():
    """Every road of up to 5 houses with places from -2 to 3 and 0, 1 or 3 letters a house."""
    for count in range(6):
        for places in combinations(range(-2, 4), count):
            for letters in product((0, 1, 3), repeat=count):
                yield list(zip(places, letters))


def some_roads():
    """Roads of no house, of one, of many; without letters; with places below 0; with numbers of any size."""
    return [
        [],
        [(0, 0)],
        [(-7, 5)],
        [(HUGE, HUGE)],
        [(-3, 0), (-1, 0), (4, 0)],
        [(0, 1), (10, 1), (20, 1), (30, 1)],
        [(-9, 2), (-8, 0), (-1, 7), (0, 0), (2, 1), (30, 4)],
        [(-HUGE, 3), (-1, HUGE), (0, 0), (5, 2), (HUGE, HUGE + 1)],
        [(k * k - 400, k % 5) for k in range(40)],
    ]


def all_posts(road):
    """All posts that a road may have."""
    if not road:
        yield []
    for count in range(1, len(road) + 1):
        for posts in combinations(range(len(road)), count):
            yield list(posts)


def some_posts(road):
    """All posts of a short road; of a long one some."""
    if len(road) <= 6:
        return list(all_posts(road))
    houses = list(range(len(road)))
    return [[house] for house in houses] + [houses[k::step] for step in range(1, 9) for k in (0, 3)]


def all_stretches(road):
    return list(combinations(range(len(road) + 1), 2))


def nearest_by_words(road, posts):
    """min tells the first one of those that are as near."""
    return [min(posts, key=lambda post: abs(road[post][0] - place)) for place, letters in road]


def way_by_words(road, posts):
    return sum(letters * min(abs(road[post][0] - place) for post in posts) for place, letters in road)


def ways_by_words(road, first, end):
    """For each house of the stretch, how far the stretch's letters are carried to it."""
    stretch = road[first:end]
    return {house: sum(letters * abs(place - road[house][0]) for place, letters in stretch)
            for house in range(first, end)}


def one_ways_by_words(road):
    """For each stretch its one way."""
    return {(first, end): min(ways_by_words(road, first, end).values()) for first, end in all_stretches(road)}


def are_posts_by_words(road, posts):
    if posts != sorted(set(posts)) or any(post not in range(len(road)) for post in posts):
        return False
    return len(posts) >= 1 or not road


def are_bounds_by_words(one_ways, houses, bounds, fee):
    """Bounds as [3] tells, for a road of so many houses whose stretches have these one ways."""
    if len(bounds) != houses + 1 or bounds[0] != 0:
        return False
    return not any(bounds[end] > bounds[first] + one_way + fee for (first, end), one_way in one_ways.items())


def is_best_by_words(road, one_ways, many, posts, bounds, fee):
    return (many in range(1, len(road) + 1) and are_posts_by_words(road, posts) and len(posts) == many
            and are_bounds_by_words(one_ways, len(road), bounds, fee)
            and bounds[-1] - many * fee == way_by_words(road, posts))


def is_paid_by_words(road, one_ways, fee, posts, bounds):
    return (fee >= 0 and are_posts_by_words(road, posts)
            and are_bounds_by_words(one_ways, len(road), bounds, fee)
            and bounds[-1] == way_by_words(road, posts) + len(posts) * fee)


def least_ways_by_words(road):
    """The least ways by 1 post, by 2, and so on, of all choices of so many posts."""
    return [min(way_by_words(road, posts) for posts in combinations(range(len(road)), many))
            for many in range(1, len(road) + 1)]


def drawn_road(seed, houses, widest, most_letters):
    """A road of so many houses, the same one for the same numbers."""
    source = random.Random(seed)
    place = -houses * widest // 2
    road = []
    for house in range(houses):
        place += source.randint(1, widest)
        road.append((place, source.randint(0, most_letters)))
    return road


def changed_lists(numbers):
    """Lists that are not, or not everywhere, the one handed in: a number more or less, gone, twice, moved .."""
    for k in range(len(numbers)):
        for other in (numbers[k] + 1, numbers[k] - 1, -numbers[k] - 1, 0, numbers[k] + HUGE, numbers[k] - HUGE):
            yield numbers[:k] + [other] + numbers[k + 1:]
        yield numbers[:k] + numbers[k + 1:]
        yield numbers[:k] + [numbers[k]] + numbers[k:]
        yield numbers[:k] + numbers[k + 1:] + [numbers[k]]
    yield numbers[::-1]
    yield [number + 1 for number in numbers]
    yield [number - 1 for number in numbers]
    yield [-number for number in numbers]
    yield numbers + numbers
    yield numbers + [0]
    yield [0] + numbers
    yield numbers + [numbers[-1] + 1 if numbers else 1]
    yield numbers[:1]
    yield []
    yield [0] * 1000


NO_HOUSES = NO_NUMBERS + [(0,), (0, 1, 2), [0, 1], "01", {0: 1, 1: 2}, {0, 1}, ((0, 1), 1)]


def bad_roads():
    yield from NO_LISTS
    for wrong in NO_HOUSES:
        yield [wrong]
        yield [(-9, 1), wrong]
        yield [wrong, (9, 1)]
        yield [(-9, 1), wrong, (9, 1)]
    for wrong in NO_NUMBERS:
        yield [(wrong, 1)]
        yield [(0, wrong)]
        yield [(-9, 1), (wrong, 1), (9, 1)]
        yield [(-9, 1), (0, wrong), (9, 1)]
    yield [(0, 1), (0, 1)]
    yield [(1, 1), (0, 1)]
    yield [(0, 1), (2, 1), (2, 0)]
    yield [(0, 1), (2, 1), (1, 0)]
    yield [(2, 1), (1, 1), (3, 1)]
    yield [(HUGE, 1), (HUGE, 1)]
    yield [(HUGE, 1), (-HUGE, 1)]
    yield [(0, -1)]
    yield [(0, -HUGE)]
    yield [(0, -1), (1, 1)]
    yield [(0, 1), (1, 1), (2, -1)]


class Refusing(unittest.TestCase):
    def check_refused(self, error, ask, *handed):
        try:
            ask(*handed)
        except error as raised:
            self.assertIs(type(raised), error)
        else:
            self.fail("not refused")


class Known:
    """A road with what the document's words tell of it, reckoned once for all tests."""

    def __init__(self, road):
        self.road = road
        self.houses = len(road)
        self.one_ways = one_ways_by_words(road)

    def is_best(self, many, posts, bounds, fee):
        return is_best_by_words(self.road, self.one_ways, many, posts, bounds, fee)

    def is_paid(self, fee, posts, bounds):
        return is_paid_by_words(self.road, self.one_ways, fee, posts, bounds)


@lru_cache(maxsize=None)
def known_small_roads():
    return [Known(road) for road in small_roads()]


@lru_cache(maxsize=None)
def known_roads():
    """Short ones of all sorts, and some of a few dozen houses."""
    return [Known(road) for road in some_roads() + [
        [(place, 0) for place in range(-4, 5)],
        [(place, 1) for place in range(-4, 5)],
        [(-HUGE, 0), (-HUGE + 1, 7), (-1, 0), (0, 2), (HUGE, 1), (HUGE * HUGE, HUGE), (HUGE * HUGE + 1, 1)],
        [(k, 1) for k in range(24)],
        [(k, 0) for k in range(24)],
        drawn_road(1, 24, 3, 2),
        drawn_road(2, 36, 50, 9),
        drawn_road(3, 48, 10 ** 30, 10 ** 20),
        drawn_road(4, 48, 1, 1),
    ]]
