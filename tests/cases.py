"""Roads, posts and stretches for the tests, and answers taken word for word from the document."""

from itertools import combinations, product

HUGE = 10 ** 5000

# Of any kind, and none of them a whole number.
NO_NUMBERS = [True, False, None, 1.0, 0.0, float("nan"), 1j, "1", "", b"1", [1], (1,), [], (), {}, set(), object(), int]

# Of any kind, and none of them a list.
NO_LISTS = [None, True, False, 0, 1, -1, 1.5, "", "01", b"", (), (0,), ((0, 1),), {}, {0: 1}, set(), {0},
            range(1), iter([]), object(), list]


def small_roads():
    """Every road of up to 5 houses with places from -2 to 3 and 0, 1 or 3 letters a house."""
    for count in range(6):
        for places in combinations(range(-2, 4), count):
            for letters in product((0, 1, 3), repeat=count):
                yield list(zip(places, letters))


def some_roads():
    """Roads of no house, of one, of many; without letters; with places below 0; with numbers of any size."""
    return [
        [],
        [(0, 0)],
        [(-7, 5)],
        [(HUGE, HUGE)],
        [(-3, 0), (-1, 0), (4, 0)],
        [(0, 1), (10, 1), (20, 1), (30, 1)],
        [(-9, 2), (-8, 0), (-1, 7), (0, 0), (2, 1), (30, 4)],
        [(-HUGE, 3), (-1, HUGE), (0, 0), (5, 2), (HUGE, HUGE + 1)],
        [(k * k - 400, k % 5) for k in range(40)],
    ]


def all_posts(road):
    """All posts that a road may have."""
    if not road:
        yield []
    for count in range(1, len(road) + 1):
        for posts in combinations(range(len(road)), count):
            yield list(posts)


def some_posts(road):
    """All posts of a short road; of a long one some."""
    if len(road) <= 6:
        return list(all_posts(road))
    houses = list(range(len(road)))
    return [[house] for house in houses] + [houses[k::step] for step in range(1, 9) for k in (0, 3)]


def all_stretches(road):
    return list(combinations(range(len(road) + 1), 2))


def nearest_by_words(road, posts):
    """min tells the first one of those that are as near."""
    return [min(posts, key=lambda post: abs(road[post][0] - place)) for place, letters in road]


def way_by_words(road, posts):
    return sum(letters * min(abs(road[post][0] - place) for post in posts) for place, letters in road)


def ways_by_words(road, first, end):
    """For each house of the stretch, how far the stretch's letters are carried to it."""
    stretch = road[first:end]
    return {house: sum(letters * abs(place - road[house][0]) for place, letters in stretch)
            for house in range(first, end)}
