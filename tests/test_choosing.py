import copy
import inspect
import unittest
from functools import lru_cache

import cases
from posthouses import choosing
from posthouses.answers import Best, Paid
from posthouses.choosing import best, paying, ways
from posthouses.errors import BadMany, BadRoad
from posthouses.roads import way

ROAD = [(-4, 2), (0, 1), (4, 0), (10, 3)]


def all_known():
    return cases.known_small_roads() + cases.known_roads()


@lru_cache(maxsize=None)
def best_answers():
    """Each known road with each count of its posts, and the answer."""
    return [(known, many, best(known.road, many)) for known in all_known() for many in range(1, known.houses + 1)]


def fees_for(known):
    if known.houses <= 5:
        return (0, 1, 2, 3, 5, 100)
    return (0, 1, 2, 7, 30, 1000, 10 ** 25, 10 ** 60, cases.HUGE, cases.HUGE ** 3)


@lru_cache(maxsize=None)
def paid_answers():
    """Each known road with some fees, and the answer."""
    return [(known, fee, paying(known.road, fee)) for known in all_known() for fee in fees_for(known)]


def plain_least_ways(known):
    """For roads with too many choices of posts: the least ways by one more stretch each, all stretches looked at."""
    least = {end: known.one_ways[0, end] for end in range(1, known.houses + 1)}
    told = []
    for many in range(1, known.houses + 1):
        told.append(least[known.houses])
        least = {end: min(least[first] + known.one_ways[first, end] for first in range(many, end))
                 for end in range(many + 1, known.houses + 1)}
    return told


def least_ways(known):
    if known.houses <= 9:
        return cases.least_ways_by_words(known.road)
    return plain_least_ways(known)


class Interface(unittest.TestCase):
    def test_arguments_are_called_as_the_document_says(self):
        for name, arguments in (("best", ["road", "many"]), ("ways", ["road", "most"]), ("paying", ["road", "fee"])):
            with self.subTest(name):
                self.assertEqual(list(inspect.signature(getattr(choosing, name)).parameters), arguments)

    def test_kinds_of_the_answers(self):
        self.assertIs(type(best(ROAD, 2)), Best)
        self.assertIs(type(best(ROAD, 2).fee), int)
        for road in ([], ROAD):
            self.assertIs(type(paying(road, 3)), Paid)
            self.assertIs(type(ways(road, 3)), list)
        for answer in (best(ROAD, 2), paying(ROAD, 3), paying([], 3)):
            self.assertIs(type(answer.posts), list)
            self.assertIs(type(answer.bounds), list)
            self.assertEqual({type(number) for number in answer.posts + answer.bounds}, {int})


class BestPosts(unittest.TestCase):
    """Each promise of [3] by itself."""

    def test_some_roads_by_hand(self):
        self.assertIn(best(ROAD, 1).posts, ([1], [2], [3]))
        self.assertEqual(best(ROAD, 2).posts, [0, 3])
        self.assertEqual(best(ROAD, 4).posts, [0, 1, 2, 3])
        self.assertEqual(best([(-7, 5)], 1).posts, [0])
        self.assertEqual(best([(0, 1), (1, 9), (2, 1), (50, 1), (51, 9), (52, 1)], 2).posts, [1, 4])

    def test_just_so_many_posts_rising_each_one_a_house(self):
        for known, many, answer in best_answers():
            self.assertEqual(len(answer.posts), many)
            self.assertEqual(answer.posts, sorted(set(answer.posts)))
            self.assertTrue(set(answer.posts) <= set(range(known.houses)))

    def test_a_bound_for_each_count_of_first_houses_and_a_fee_whole_numbers_all(self):
        for known, many, answer in best_answers():
            self.assertEqual(len(answer.bounds), known.houses + 1)
            self.assertEqual({type(number) for number in answer.bounds + [answer.fee]}, {int})

    def test_the_bound_for_none_is_0(self):
        for known, many, answer in best_answers():
            self.assertEqual(answer.bounds[0], 0)

    def test_no_stretch_has_a_bound_at_its_end_that_is_more(self):
        for known, many, answer in best_answers():
            for (first, end), one_way in known.one_ways.items():
                self.assertTrue(answer.bounds[end] <= answer.bounds[first] + one_way + answer.fee, (many, first, end))

    def test_the_last_bound_less_the_fee_for_each_post_is_the_way(self):
        for known, many, answer in best_answers():
            carried = cases.way_by_words(known.road, answer.posts)
            self.assertTrue(answer.bounds[-1] - many * answer.fee == carried)

    def test_no_other_choice_of_so_many_posts_has_a_lesser_way(self):
        told = {}
        for known, many, answer in best_answers():
            told.setdefault(id(known), []).append(cases.way_by_words(known.road, answer.posts))
        for known in all_known():
            self.assertTrue(told.get(id(known), []) == least_ways(known))

    def test_each_answer_shows_itself(self):
        for known, many, answer in best_answers():
            self.assertIs(answer.shows(known.road, many), True)

    def test_without_letters_any_posts_are_as_good_but_just_so_many_are_told(self):
        road = [(place, 0) for place in range(6)]
        for many in range(1, 7):
            answer = best(road, many)
            self.assertEqual((len(answer.posts), answer.bounds[-1] - many * answer.fee), (many, 0))

    def test_by_as_many_posts_as_houses(self):
        for known in all_known():
            if known.houses:
                self.assertEqual(best(known.road, known.houses).posts, list(range(known.houses)))


class Ways(unittest.TestCase):
    """[4]"""

    def test_a_road_by_hand(self):
        self.assertEqual(ways(ROAD, 4), [38, 4, 0, 0])

    def test_the_least_of_all_choices(self):
        for known in all_known():
            self.assertTrue(ways(known.road, known.houses) == least_ways(known))

    def test_to_so_many_but_no_more_than_there_are_houses(self):
        for most, told in ((0, []), (1, [38]), (2, [38, 4]), (3, [38, 4, 0]), (4, [38, 4, 0, 0]),
                           (5, [38, 4, 0, 0]), (99, [38, 4, 0, 0]), (cases.HUGE, [38, 4, 0, 0])):
            self.assertEqual(ways(ROAD, most), told)
        for known in cases.known_roads():
            told = ways(known.road, known.houses)
            for most in range(known.houses + 3):
                self.assertTrue(ways(known.road, most) == told[:most])

    def test_a_road_without_houses(self):
        for most in (0, 1, 2, cases.HUGE):
            self.assertEqual(ways([], most), [])

    def test_none_rises_and_none_falls_by_more_than_the_one_ahead(self):
        for known in all_known():
            told = ways(known.road, known.houses)
            falls = [told[k] - told[k + 1] for k in range(len(told) - 1)]
            self.assertTrue(all(fall >= 0 for fall in falls))
            self.assertTrue(falls == sorted(falls, reverse=True))

    def test_by_as_many_posts_as_houses_it_is_0(self):
        for known in all_known():
            if known.houses:
                self.assertEqual(ways(known.road, known.houses)[-1], 0)

    def test_the_ways_are_those_of_the_best_posts(self):
        for known in cases.known_roads():
            told = [way(known.road, best(known.road, many).posts) for many in range(1, known.houses + 1)]
            self.assertTrue(ways(known.road, known.houses) == told)


class PaidPosts(unittest.TestCase):
    """Each promise of [5] by itself."""

    def test_a_road_by_hand(self):
        self.assertEqual(paying(ROAD, 33).posts, [0, 3])
        self.assertEqual(paying(ROAD, 33).bounds[-1], 70)
        self.assertIn(paying(ROAD, 35).posts, ([1], [2], [3]))
        self.assertEqual(paying(ROAD, 35).bounds[-1], 73)
        self.assertEqual(paying(ROAD, 3).posts, [0, 1, 3])
        self.assertEqual(paying(ROAD, 3).bounds[-1], 9)

    def test_a_road_without_houses(self):
        for fee in (0, 1, 7, cases.HUGE):
            answer = paying([], fee)
            self.assertEqual((answer.posts, answer.bounds), ([], [0]))
            self.assertIs(answer.shows([], fee), True)

    def test_posts_rising_each_one_a_house(self):
        for known, fee, answer in paid_answers():
            self.assertEqual(answer.posts, sorted(set(answer.posts)))
            self.assertTrue(set(answer.posts) <= set(range(known.houses)))
            self.assertEqual(len(answer.posts) >= 1, known.houses >= 1)

    def test_a_bound_for_each_count_of_first_houses_whole_numbers_all(self):
        for known, fee, answer in paid_answers():
            self.assertEqual(len(answer.bounds), known.houses + 1)
            self.assertEqual({type(number) for number in answer.bounds}, {int})

    def test_the_bound_for_none_is_0(self):
        for known, fee, answer in paid_answers():
            self.assertEqual(answer.bounds[0], 0)

    def test_no_stretch_has_a_bound_at_its_end_that_is_more(self):
        for known, fee, answer in paid_answers():
            for (first, end), one_way in known.one_ways.items():
                self.assertTrue(answer.bounds[end] <= answer.bounds[first] + one_way + fee, (first, end))

    def test_the_last_bound_is_the_way_and_the_fees(self):
        for known, fee, answer in paid_answers():
            carried = cases.way_by_words(known.road, answer.posts)
            self.assertTrue(answer.bounds[-1] == carried + fee * len(answer.posts))

    def test_no_posts_cost_less(self):
        least = {id(known): least_ways(known) for known in all_known()}
        for known, fee, answer in paid_answers():
            costs = [carried + fee * many for many, carried in enumerate(least[id(known)], start=1)]
            cost = cases.way_by_words(known.road, answer.posts) + fee * len(answer.posts)
            self.assertTrue(cost == min(costs, default=0))

    def test_each_answer_shows_itself(self):
        for known, fee, answer in paid_answers():
            self.assertIs(answer.shows(known.road, fee), True)

    def test_a_fee_of_0_leaves_no_way(self):
        for known in all_known():
            self.assertEqual(cases.way_by_words(known.road, paying(known.road, 0).posts), 0)

    def test_a_great_fee_leaves_one_post(self):
        great = cases.HUGE ** 5
        for known in all_known():
            if known.houses:
                self.assertEqual(len(paying(known.road, great).posts), 1)


def spoil(numbers):
    numbers.reverse()
    numbers.append(-99)
    numbers[0] = 98


class NewAnswers(unittest.TestCase):
    def test_changing_what_was_told_changes_no_later_answer(self):
        for ask in (lambda: best(ROAD, 2), lambda: best(ROAD, 4), lambda: paying(ROAD, 5), lambda: paying([], 5)):
            answer = ask()
            posts, bounds = list(answer.posts), list(answer.bounds)
            spoil(answer.posts)
            self.assertEqual(answer.bounds, bounds)
            spoil(answer.bounds)
            self.assertEqual((ask().posts, ask().bounds), (posts, bounds))
        for most in (0, 3, 9):
            kept = ways(ROAD, most)
            spoil(ways(ROAD, most))
            self.assertEqual(ways(ROAD, most), kept)

    def test_each_list_is_another_one(self):
        for ask in (lambda: best(ROAD, 3), lambda: paying(ROAD, 5), lambda: paying([], 0)):
            lists = [ask().posts, ask().posts, ask().bounds, ask().bounds]
            self.assertEqual(len({id(numbers) for numbers in lists}), 4)
        told = [ways(ROAD, 3), ways(ROAD, 3), ways([], 3), ways([], 3)]
        self.assertEqual(len({id(numbers) for numbers in told}), 4)

    def test_no_answer_holds_the_road_that_was_handed_in(self):
        road = []
        ways(road, 3).append(1)
        spoil(paying(road, 3).posts)
        spoil(paying(road, 3).bounds)
        self.assertEqual(road, [])

    def test_what_was_handed_in_is_as_it_was(self):
        for known in cases.known_roads():
            road = copy.deepcopy(known.road)
            ways(road, 3)
            answer = paying(road, 3)
            answer.shows(road, 3)
            spoil(answer.posts)
            spoil(answer.bounds)
            if road:
                answer = best(road, 1)
                answer.shows(road, 1)
                spoil(answer.posts)
                spoil(answer.bounds)
            self.assertTrue(road == known.road)

    def test_what_was_handed_in_is_not_kept(self):
        road = [(0, 1), (1, 1), (9, 1)]
        answer = best(road, 1)
        paid = paying(road, 2)
        fields = copy.deepcopy((answer.posts, answer.bounds, answer.fee, paid.posts, paid.bounds))
        self.assertEqual(ways(road, 9), [9, 1, 0])
        road[2] = (2, 1)
        road.append((3, 0))
        self.assertEqual((answer.posts, answer.bounds, answer.fee, paid.posts, paid.bounds), fields)
        self.assertEqual(ways(road, 9), [2, 1, 0, 0])
        self.assertEqual(best(road, 1).posts, [1])
        self.assertEqual(len(paying(road, 2).bounds), 5)
        road.clear()
        self.assertEqual(ways(road, 9), [])


class Refusals(cases.Refusing):
    def test_no_road(self):
        for number, road in enumerate(cases.bad_roads()):
            with self.subTest(number):
                self.check_refused(BadRoad, best, road, 1)
                self.check_refused(BadRoad, ways, road, 1)
                self.check_refused(BadRoad, paying, road, 1)

    def test_where_both_are_wrong_the_road_goes_first(self):
        for number, road in enumerate(cases.bad_roads()):
            with self.subTest(number):
                for wrong in (None, True, -1, [], "1", 1.0, -cases.HUGE):
                    self.check_refused(BadRoad, best, road, wrong)
                    self.check_refused(BadRoad, ways, road, wrong)
                    self.check_refused(BadRoad, paying, road, wrong)
                self.check_refused(BadRoad, best, road, 0)
                self.check_refused(BadRoad, best, road, cases.HUGE)

    def test_no_whole_number_from_0_on(self):
        for road in ([], [(0, 1)], [(0, 0)], ROAD):
            for number, wrong in enumerate(cases.NO_NUMBERS + [-1, -2, -cases.HUGE]):
                with self.subTest(number, houses=len(road)):
                    self.check_refused(BadMany, best, road, wrong)
                    self.check_refused(BadMany, ways, road, wrong)
                    self.check_refused(BadMany, paying, road, wrong)

    def test_no_such_count_of_posts(self):
        for road in ([], [(0, 1)], [(0, 0), (1, 0)], ROAD):
            for wrong in (0, len(road) + 1, len(road) + 2, cases.HUGE):
                with self.subTest(houses=len(road)):
                    self.check_refused(BadMany, best, road, wrong)

    def test_a_road_without_houses_has_no_count_of_posts(self):
        for wrong in (-1, 0, 1, 2):
            self.check_refused(BadMany, best, [], wrong)


class LongRoads(unittest.TestCase):
    def test_a_long_road(self):
        houses = 300
        road = cases.drawn_road(5, houses, 1000, 9)
        told = ways(road, houses)
        self.assertEqual(len(told), houses)
        for many in (1, 2, 50, 150, 299, 300):
            answer = best(road, many)
            self.assertEqual(way(road, answer.posts), told[many - 1])
            self.assertIs(answer.shows(road, many), True)
        for fee in (0, 1000, 10 ** 6):
            answer = paying(road, fee)
            self.assertEqual(answer.bounds[-1], min(told[k] + fee * (k + 1) for k in range(houses)))
            self.assertIs(answer.shows(road, fee), True)


if __name__ == "__main__":
    unittest.main()
