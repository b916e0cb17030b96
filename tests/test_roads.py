import copy
import inspect
import unittest

import cases
from posthouses import roads
from posthouses.errors import BadPosts, BadRoad, BadStretch
from posthouses.roads import middle, nearest, one_way, way

ROAD = [(-4, 2), (0, 1), (4, 0), (10, 3)]


class Interface(unittest.TestCase):
    def test_arguments_are_called_as_the_document_says(self):
        for name, arguments in (("nearest", ["road", "posts"]), ("way", ["road", "posts"]),
                                ("middle", ["road", "first", "end"]), ("one_way", ["road", "first", "end"])):
            with self.subTest(name):
                self.assertEqual(list(inspect.signature(getattr(roads, name)).parameters), arguments)

    def test_kinds_of_the_answers(self):
        for road in ([], ROAD):
            self.assertIs(type(nearest(road, [0] if road else [])), list)
            self.assertIs(type(way(road, [0] if road else [])), int)
        self.assertIs(type(middle(ROAD, 0, 4)), list)
        self.assertIs(type(one_way(ROAD, 0, 4)), int)


class Nearest(unittest.TestCase):
    def test_posts_are_told_as_counts_of_houses(self):
        self.assertEqual(nearest(ROAD, [1, 3]), [1, 1, 1, 3])
        self.assertEqual(nearest(ROAD, [2]), [2, 2, 2, 2])

    def test_of_two_as_near_the_first(self):
        self.assertEqual(nearest([(0, 1), (5, 1), (10, 1)], [0, 2]), [0, 0, 2])
        self.assertEqual(nearest([(-3, 0), (-1, 0), (1, 0), (3, 0), (5, 0)], [0, 2, 4]), [0, 0, 2, 2, 4])

    def test_no_house(self):
        self.assertEqual(nearest([], []), [])

    def test_one_house(self):
        self.assertEqual(nearest([(-7, 5)], [0]), [0])

    def test_one_post_alone(self):
        for post in range(4):
            self.assertEqual(nearest(ROAD, [post]), [post] * 4)

    def test_all_houses_as_posts(self):
        self.assertEqual(nearest(ROAD, [0, 1, 2, 3]), [0, 1, 2, 3])

    def test_houses_without_letters_have_a_nearest_post_too(self):
        self.assertEqual(nearest([(0, 0), (1, 0), (9, 0)], [1, 2]), [1, 1, 2])

    def test_huge_places(self):
        huge = cases.HUGE
        road = [(-huge, 1), (-1, 1), (0, 1), (1, 1), (huge, 1)]
        self.assertEqual(nearest(road, [0, 4]), [0, 0, 0, 4, 4])

    def test_a_wide_gap_between_houses(self):
        road = [(0, 1), (100, 1), (101, 1), (102, 1), (103, 1)]
        self.assertEqual(nearest(road, [0, 1, 2, 3, 4]), [0, 1, 2, 3, 4])
        self.assertEqual(nearest(road, [0, 3]), [0, 3, 3, 3, 3])

    def test_every_small_road_by_the_words_of_the_document(self):
        for road in cases.small_roads():
            for posts in cases.all_posts(road):
                self.assertEqual(nearest(road, posts), cases.nearest_by_words(road, posts), (road, posts))

    def test_roads_of_all_sorts_by_the_words_of_the_document(self):
        for number, road in enumerate(cases.some_roads()):
            for posts in cases.some_posts(road):
                with self.subTest(road=number, posts=posts):
                    self.assertTrue(nearest(road, posts) == cases.nearest_by_words(road, posts))


class Way(unittest.TestCase):
    def test_each_letter_by_itself(self):
        self.assertEqual(way(ROAD, [1]), 2 * 4 + 1 * 0 + 0 * 4 + 3 * 10)
        self.assertEqual(way(ROAD, [0, 3]), 1 * 4)

    def test_no_house(self):
        self.assertEqual(way([], []), 0)

    def test_one_house(self):
        self.assertEqual(way([(-7, 5)], [0]), 0)

    def test_one_post_alone(self):
        self.assertEqual([way(ROAD, [post]) for post in range(4)], [46, 38, 38, 38])

    def test_all_houses_as_posts(self):
        for road in cases.some_roads():
            self.assertEqual(way(road, list(range(len(road)))), 0)

    def test_no_letters(self):
        self.assertEqual(way([(-3, 0), (-1, 0), (4, 0)], [2]), 0)

    def test_numbers_of_any_size(self):
        huge = cases.HUGE
        self.assertTrue(way([(-huge, huge), (huge, 1)], [1]) == 2 * huge * huge)
        self.assertTrue(way([(-huge, huge), (huge, 1)], [0]) == 2 * huge)

    def test_every_small_road_by_the_words_of_the_document(self):
        for road in cases.small_roads():
            for posts in cases.all_posts(road):
                self.assertEqual(way(road, posts), cases.way_by_words(road, posts), (road, posts))

    def test_roads_of_all_sorts_by_the_words_of_the_document(self):
        for number, road in enumerate(cases.some_roads()):
            for posts in cases.some_posts(road):
                with self.subTest(road=number, posts=posts):
                    self.assertTrue(way(road, posts) == cases.way_by_words(road, posts))


class Stretches(unittest.TestCase):
    def test_one_house(self):
        for house in range(4):
            self.assertEqual(middle(ROAD, house, house + 1), [house])
            self.assertEqual(one_way(ROAD, house, house + 1), 0)

    def test_some_houses(self):
        self.assertEqual(middle(ROAD, 1, 4), [3])
        self.assertEqual(one_way(ROAD, 1, 4), 10)
        self.assertEqual(middle(ROAD, 0, 2), [0])
        self.assertEqual(one_way(ROAD, 0, 2), 4)

    def test_all_houses_where_several_are_the_middle(self):
        self.assertEqual(middle(ROAD, 0, 4), [1, 2, 3])
        self.assertEqual(one_way(ROAD, 0, 4), 38)

    def test_letters_outside_the_stretch_do_not_count(self):
        road = [(0, 900), (1, 1), (2, 1), (3, 1), (4, 900)]
        self.assertEqual(middle(road, 1, 4), [2])
        self.assertEqual(one_way(road, 1, 4), 2)

    def test_two_middles_and_those_between_them(self):
        self.assertEqual(middle([(0, 1), (10, 1), (20, 1), (30, 1)], 0, 4), [1, 2])
        self.assertEqual(middle([(0, 5), (1, 0), (2, 0), (3, 5)], 0, 4), [0, 1, 2, 3])

    def test_no_letters_at_all(self):
        road = [(-3, 0), (-1, 0), (4, 0)]
        self.assertEqual(middle(road, 0, 3), [0, 1, 2])
        self.assertEqual(one_way(road, 0, 3), 0)
        self.assertEqual(middle([(0, 4)] + [(place + 9, 0) for place, letters in road], 1, 4), [1, 2, 3])

    def test_outer_houses_without_letters_are_no_middle(self):
        self.assertEqual(middle([(0, 0), (1, 2), (2, 0)], 0, 3), [1])

    def test_numbers_of_any_size(self):
        huge = cases.HUGE
        road = [(-huge, huge), (0, 0), (huge, huge + 1)]
        self.assertEqual(middle(road, 0, 3), [2])
        self.assertTrue(one_way(road, 0, 3) == 2 * huge * huge)

    def check_all_stretches(self, road):
        for first, end in cases.all_stretches(road):
            ways = cases.ways_by_words(road, first, end)
            least = min(ways.values())
            self.assertTrue(one_way(road, first, end) == least, (first, end))
            self.assertEqual(middle(road, first, end), [house for house in ways if ways[house] == least])

    def test_every_small_road_by_the_words_of_the_document(self):
        for road in cases.small_roads():
            self.check_all_stretches(road)

    def test_roads_of_all_sorts_by_the_words_of_the_document(self):
        for number, road in enumerate(cases.some_roads()):
            with self.subTest(road=number):
                self.check_all_stretches(road)


class NewAnswers(unittest.TestCase):
    def test_changing_what_was_told_changes_no_later_answer(self):
        for ask in (lambda: nearest(ROAD, [0, 1, 2, 3]), lambda: nearest(ROAD, [1]),
                    lambda: middle(ROAD, 0, 4), lambda: middle(ROAD, 2, 3)):
            told = ask()
            kept = list(told)
            told.append(99)
            told[0] = 98
            self.assertEqual(ask(), kept)

    def test_no_answer_is_the_list_that_was_handed_in(self):
        posts = [0, 1, 2, 3]
        nearest(ROAD, posts).clear()
        self.assertEqual(posts, [0, 1, 2, 3])
        none = []
        nearest(none, none).append(1)
        self.assertEqual(none, [])

    def test_what_was_handed_in_is_as_it_was(self):
        for road in cases.some_roads():
            kept = copy.deepcopy(road)
            for posts in cases.some_posts(road)[:20]:
                posts_kept = list(posts)
                nearest(road, posts)
                way(road, posts)
                self.assertEqual(posts, posts_kept)
            for first, end in cases.all_stretches(road)[:20]:
                middle(road, first, end)
                one_way(road, first, end)
            self.assertTrue(road == kept)

    def test_what_was_handed_in_is_not_kept(self):
        road = [(0, 1), (1, 1), (9, 1)]
        posts = [0, 2]
        self.assertEqual((nearest(road, posts), way(road, posts)), ([0, 0, 2], 1))
        self.assertEqual((middle(road, 0, 3), one_way(road, 0, 3)), ([1], 9))
        road[1] = (8, 5)
        self.assertEqual((nearest(road, posts), way(road, posts)), ([0, 2, 2], 5))
        self.assertEqual((middle(road, 0, 3), one_way(road, 0, 3)), ([1], 9))
        posts[1] = 1
        road.append((10, 50))
        self.assertEqual((nearest(road, posts), way(road, posts)), ([0, 1, 1, 1], 101))
        self.assertEqual((middle(road, 0, 4), one_way(road, 0, 4)), ([3], 21))


def bad_posts(count):
    """For a road of so many houses, one or more."""
    yield from cases.NO_LISTS
    for wrong in cases.NO_NUMBERS + [-1, -count, count, count + 1, cases.HUGE, -cases.HUGE]:
        yield [wrong]
        yield [0, wrong]
        yield [wrong, count - 1]
    yield []
    yield [0, 0]
    yield [count - 1, count - 1]
    yield list(range(count + 1))
    yield list(range(count)) + [0]
    if count > 1:
        yield [1, 0]
        yield [0, 1, 1]


def bad_stretches(count):
    """For a road of so many houses, of none too."""
    for wrong in cases.NO_NUMBERS:
        yield wrong, count
        yield wrong, 1
        yield 0, wrong
        yield wrong, wrong
    for house in range(-1, count + 2):
        yield house, house
        yield house, house - 1
        yield house, count + 1
        yield -1, house
        yield house, -1
    yield 0, cases.HUGE
    yield -cases.HUGE, count
    yield -cases.HUGE, cases.HUGE
    yield cases.HUGE, cases.HUGE + 1
    yield count, 0


class Refusals(cases.Refusing):
    def test_no_road(self):
        for number, road in enumerate(cases.bad_roads()):
            with self.subTest(number):
                self.check_refused(BadRoad, nearest, road, [0])
                self.check_refused(BadRoad, way, road, [0])
                self.check_refused(BadRoad, middle, road, 0, 1)
                self.check_refused(BadRoad, one_way, road, 0, 1)

    def test_no_posts(self):
        for road in ([(0, 1)], [(0, 1), (3, 0)], ROAD):
            for number, posts in enumerate(bad_posts(len(road))):
                with self.subTest(number, houses=len(road)):
                    self.check_refused(BadPosts, nearest, road, posts)
                    self.check_refused(BadPosts, way, road, posts)

    def test_no_posts_where_there_are_no_houses(self):
        for number, posts in enumerate(cases.NO_LISTS + [[0], [-1], [0, 1], [None], [True], [cases.HUGE]]):
            with self.subTest(number):
                self.check_refused(BadPosts, nearest, [], posts)
                self.check_refused(BadPosts, way, [], posts)

    def test_no_stretch(self):
        for road in ([], [(0, 1)], ROAD):
            for number, (first, end) in enumerate(bad_stretches(len(road))):
                with self.subTest(number, houses=len(road)):
                    self.check_refused(BadStretch, middle, road, first, end)
                    self.check_refused(BadStretch, one_way, road, first, end)

    def test_where_both_are_wrong_the_road_goes_first(self):
        for number, road in enumerate(cases.bad_roads()):
            with self.subTest(number):
                for posts in (None, [], [True], [-1], [99], [0, 0], [1, 0]):
                    self.check_refused(BadRoad, nearest, road, posts)
                    self.check_refused(BadRoad, way, road, posts)
                for first, end in ((None, None), (True, 2), (0, 0), (1, 0), (-1, 1), (0, 99)):
                    self.check_refused(BadRoad, middle, road, first, end)
                    self.check_refused(BadRoad, one_way, road, first, end)


class LongRoads(unittest.TestCase):
    def test_a_long_road(self):
        count = 20001
        road = [(place, 1) for place in range(count)]
        self.assertEqual(nearest(road, list(range(count))), list(range(count)))
        self.assertEqual(way(road, [0]), count * (count - 1) // 2)
        self.assertEqual(middle(road, 0, count), [10000])
        self.assertEqual(one_way(road, 0, count), 10000 * 10001)


if __name__ == "__main__":
    unittest.main()
