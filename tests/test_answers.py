import copy
import inspect
import unittest

import cases
from posthouses.answers import Answer, Best, Paid
from posthouses.choosing import best, paying, ways

ROAD = [(-4, 2), (0, 1), (4, 0), (10, 3)]


class Classes(unittest.TestCase):
    def test_straight_under_answer(self):
        self.assertEqual(Best.__bases__, (Answer,))
        self.assertEqual(Paid.__bases__, (Answer,))
        self.assertEqual(Answer.__bases__, (object,))

    def test_arguments_are_called_as_the_document_says(self):
        for what, arguments in ((Best, ["posts", "bounds", "fee"]), (Paid, ["posts", "bounds"]),
                                (Best.shows, ["self", "road", "many"]), (Paid.shows, ["self", "road", "fee"])):
            self.assertEqual(list(inspect.signature(what).parameters), arguments)

    def test_fields_are_what_was_handed_in(self):
        for posts, bounds, fee in (([0, 3], [0, 1, 2], 5), ([], [], -1), ([3, -3, 3], [9] * 50, cases.HUGE)):
            answer = Best(posts, bounds, fee)
            self.assertTrue((answer.posts, answer.bounds, answer.fee) == (posts, bounds, fee))
            answer = Paid(posts, bounds)
            self.assertTrue((answer.posts, answer.bounds) == (posts, bounds))

    def test_fields_are_set_for_each_object_by_itself(self):
        first, second = Best([0], [0, 1], 1), Best([1], [0, 2], 2)
        self.assertEqual((first.posts, first.bounds, first.fee), ([0], [0, 1], 1))
        self.assertEqual((second.posts, second.bounds, second.fee), ([1], [0, 2], 2))

    def test_lists_are_copied(self):
        for make in (lambda posts, bounds: Best(posts, bounds, 3), Paid):
            posts, bounds = [0, 3], [0, 1, 2, 3, 4]
            answer = make(posts, bounds)
            posts.append(9)
            bounds.reverse()
            self.assertEqual((answer.posts, answer.bounds), ([0, 3], [0, 1, 2, 3, 4]))
            answer.posts.clear()
            answer.bounds.append(8)
            self.assertEqual((posts, bounds), ([0, 3, 9], [4, 3, 2, 1, 0]))

    def test_one_list_handed_in_twice_becomes_two(self):
        numbers = [0]
        for answer in (Best(numbers, numbers, 0), Paid(numbers, numbers)):
            answer.posts.append(1)
            self.assertEqual((answer.bounds, numbers), ([0], [0]))

    def test_the_same_lists_make_answers_that_do_not_share_them(self):
        posts, bounds = [0], [0, 0]
        first, second = Paid(posts, bounds), Paid(posts, bounds)
        first.posts.append(1)
        first.bounds.append(1)
        self.assertEqual((second.posts, second.bounds), ([0], [0, 0]))


def roads_for_changes():
    """Enough of the small roads, spread over all of them, and some with more houses or with great numbers."""
    return cases.known_small_roads()[::37] + cases.known_roads()[:9:2] + cases.known_roads()[9:12]


class Shows(unittest.TestCase):
    """True just where the document's words hold, for answers made by hand."""

    def setUp(self):
        self.seen = {True: 0, False: 0}

    def check_seen_both(self):
        self.assertGreater(self.seen[True], 50)
        self.assertGreater(self.seen[False], 50)

    def check_best(self, known, many, posts, bounds, fee):
        told = Best(posts, bounds, fee).shows(known.road, many)
        self.assertIs(told, known.is_best(many, posts, bounds, fee))
        self.seen[told] += 1

    def check_paid(self, known, fee, posts, bounds):
        told = Paid(posts, bounds).shows(known.road, fee)
        self.assertIs(told, known.is_paid(fee, posts, bounds))
        self.seen[told] += 1


class BestShows(Shows):
    def some_answers(self):
        for known in roads_for_changes():
            for many in sorted({1, 2, known.houses // 2, known.houses - 1, known.houses} & set(range(1, 99))):
                if many <= known.houses:
                    yield known, many, best(known.road, many)

    def test_other_posts(self):
        for known, many, answer in self.some_answers():
            for posts in cases.changed_lists(answer.posts):
                for count in (many, len(posts)):
                    self.check_best(known, count, posts, answer.bounds, answer.fee)
        self.check_seen_both()

    def test_all_posts_of_small_roads(self):
        for known in roads_for_changes():
            if 1 <= known.houses <= 5:
                for posts in cases.all_posts(known.road):
                    answer = best(known.road, len(posts))
                    self.check_best(known, len(posts), posts, answer.bounds, answer.fee)
        self.check_seen_both()

    def test_other_bounds(self):
        for known, many, answer in self.some_answers():
            for bounds in cases.changed_lists(answer.bounds):
                self.check_best(known, many, answer.posts, bounds, answer.fee)
        self.check_seen_both()

    def test_other_fees(self):
        for known, many, answer in self.some_answers():
            for more in (-cases.HUGE, -100, -2, -1, 1, 2, 100, cases.HUGE):
                fee = answer.fee + more
                self.check_best(known, many, answer.posts, answer.bounds, fee)
                # Here the last bound still fits the posts' way.
                paired = answer.bounds[:-1] + [answer.bounds[-1] + more * many]
                self.check_best(known, many, answer.posts, paired, fee)
            self.check_best(known, many, answer.posts, answer.bounds, -answer.fee)
        self.check_seen_both()

    def test_every_fee_with_the_bounds_of_that_fee(self):
        for known in roads_for_changes():
            for many in range(1, min(known.houses, 5) + 1):
                posts = best(known.road, many).posts
                for fee in range(0, 12):
                    self.check_best(known, many, posts, paying(known.road, fee).bounds, fee)
        self.check_seen_both()

    def test_other_counts(self):
        for known, many, answer in self.some_answers():
            for other in (-cases.HUGE, -many, -1, 0, many - 1, many, many + 1, known.houses, known.houses + 1):
                self.check_best(known, other, answer.posts, answer.bounds, answer.fee)
        self.check_seen_both()

    def test_other_roads(self):
        for known, many, answer in self.some_answers():
            for other in cases.known_small_roads()[::400]:
                self.check_best(other, many, answer.posts, answer.bounds, answer.fee)
        self.assertGreater(self.seen[False], 50)

    def test_a_fee_below_0_where_each_house_is_a_post(self):
        for fee in (-1, -7, -cases.HUGE):
            bounds = [fee * count for count in range(5)]
            self.assertIs(Best([0, 1, 2, 3], bounds, fee).shows(ROAD, 4), True)
            self.assertIs(Best([0, 1, 3], bounds, fee).shows(ROAD, 3), False)

    def test_bounds_below_0_and_falling_ones(self):
        road = [(0, 0), (5, 0), (9, 0)]
        self.assertIs(Best([1], [0, -5, -9, 0], 0).shows(road, 1), False)
        self.assertIs(Best([1], [0, 0, -9, -9], 0).shows(road, 1), False)
        self.assertIs(Best([1], [0, 0, 0, 0], 0).shows(road, 1), True)
        self.assertIs(Best([1], [0, 3, 2, 3], 3).shows(road, 1), True)
        self.assertIs(Best([1], [0, 3, 1, 3], 3).shows(road, 1), True)
        self.assertIs(Best([1], [0, 3, 0, 3], 3).shows(road, 1), True)
        self.assertIs(Best([1], [0, 3, -1, 3], 3).shows(road, 1), False)

    def test_each_stretch_counts(self):
        # Of the road's four houses, by 2 posts with a fee of 4, each stretch has its room.
        known = cases.Known(ROAD)
        answer = best(ROAD, 2)
        for bounds in ([[0] + [answer.bounds[k] + by for k in (1, 2, 3)] + answer.bounds[4:]
                        for by in range(-40, 41)]):
            self.check_best(known, 2, answer.posts, bounds, answer.fee)
        for house in (1, 2, 3):
            for by in range(-40, 41):
                bounds = list(answer.bounds)
                bounds[house] += by
                self.check_best(known, 2, answer.posts, bounds, answer.fee)

    def test_a_road_without_houses_has_no_best(self):
        for many in (-1, 0, 1):
            for posts in ([], [0]):
                for bounds in ([], [0], [0, 0]):
                    for fee in (-1, 0, 1):
                        self.assertIs(Best(posts, bounds, fee).shows([], many), False)

    def test_lists_of_any_length(self):
        answer = best(ROAD, 2)
        for numbers in ([], [0], [0] * 5000, list(range(5000)), [cases.HUGE] * 3, [-1]):
            self.assertIs(Best(numbers, answer.bounds, answer.fee).shows(ROAD, 2), False)
            self.assertIs(Best(numbers, answer.bounds, answer.fee).shows(ROAD, len(numbers)), False)
            self.assertIs(Best(answer.posts, numbers, answer.fee).shows(ROAD, 2), False)
            self.assertIs(Best(numbers, numbers, 0).shows(ROAD, 2), False)

    def test_true_and_false_are_no_numbers(self):
        road = [(0, 1), (1, 1)]
        self.assertIs(Best([1], [0, 1, 2], 1).shows(road, 1), True)
        self.assertIs(Best([True], [0, 1, 2], 1).shows(road, 1), False)
        self.assertIs(Best([1], [False, 1, 2], 1).shows(road, 1), False)
        self.assertIs(Best([1], [0, True, 2], 1).shows(road, 1), False)
        self.assertIs(Best([1], [0, 1, 2], True).shows(road, 1), False)
        self.assertIs(Best([1], [0, 1, 2], 1).shows(road, True), False)


class PaidShows(Shows):
    def some_answers(self):
        for known in roads_for_changes():
            for fee in (0, 1, 4, 60):
                yield known, fee, paying(known.road, fee)

    def test_other_posts(self):
        for known, fee, answer in self.some_answers():
            for posts in cases.changed_lists(answer.posts):
                self.check_paid(known, fee, posts, answer.bounds)
        self.check_seen_both()

    def test_all_posts_of_small_roads(self):
        for known, fee, answer in self.some_answers():
            if known.houses <= 5:
                for posts in cases.all_posts(known.road):
                    self.check_paid(known, fee, posts, answer.bounds)
        self.check_seen_both()

    def test_other_bounds(self):
        for known, fee, answer in self.some_answers():
            for bounds in cases.changed_lists(answer.bounds):
                self.check_paid(known, fee, answer.posts, bounds)
        self.check_seen_both()

    def test_other_fees(self):
        for known, fee, answer in self.some_answers():
            for more in (-cases.HUGE, -fee - 1, -fee, -2, -1, 0, 1, 2, cases.HUGE):
                self.check_paid(known, fee + more, answer.posts, answer.bounds)
                paired = answer.bounds[:-1] + [answer.bounds[-1] + more * len(answer.posts)]
                self.check_paid(known, fee + more, answer.posts, paired)
        self.check_seen_both()

    def test_no_fee_below_0(self):
        self.assertIs(Paid([0, 1, 2, 3], [0, 0, 0, 0, 0]).shows(ROAD, 0), True)
        self.assertIs(Paid([0, 1, 2, 3], [0, -1, -2, -3, -4]).shows(ROAD, -1), False)
        self.assertIs(Paid([], [0]).shows([], -1), False)

    def test_a_road_without_houses(self):
        for fee in (0, 1, cases.HUGE):
            self.assertIs(Paid([], [0]).shows([], fee), True)
            for posts, bounds in (([], []), ([], [1]), ([], [-1]), ([], [0, 0]), ([0], [0]), ([0], [fee]),
                                  ([], [fee + 1]), ([-1], [0])):
                self.assertIs(Paid(posts, bounds).shows([], fee), False)

    def test_houses_but_no_posts(self):
        for road in ([(0, 0)], [(0, 1)], ROAD):
            self.assertIs(Paid([], [0] * (len(road) + 1)).shows(road, 0), False)
            self.assertIs(Paid([], [0] * (len(road) + 1)).shows(road, 3), False)

    def test_lists_of_any_length(self):
        answer = paying(ROAD, 3)
        for numbers in ([], [0], [0] * 5000, list(range(5000)), [cases.HUGE] * 3, [-1]):
            self.assertIs(Paid(numbers, answer.bounds).shows(ROAD, 3), False)
            self.assertIs(Paid(answer.posts, numbers).shows(ROAD, 3), False)
            self.assertIs(Paid(numbers, numbers).shows(ROAD, 3), False)

    def test_true_and_false_are_no_numbers(self):
        road = [(0, 1), (1, 1)]
        self.assertIs(Paid([1], [0, 1, 2]).shows(road, 1), True)
        self.assertIs(Paid([True], [0, 1, 2]).shows(road, 1), False)
        self.assertIs(Paid([1], [False, 1, 2]).shows(road, 1), False)
        self.assertIs(Paid([1], [0, True, 2]).shows(road, 1), False)
        self.assertIs(Paid([1], [0, 1, 2]).shows(road, True), False)


class FieldsAsTheyStand(unittest.TestCase):
    def test_best_after_a_field_was_given_another_value(self):
        answer = best(ROAD, 2)
        posts, bounds, fee = list(answer.posts), list(answer.bounds), answer.fee
        for name, other, right in (("posts", [1, 3], posts), ("bounds", [0] * 5, bounds), ("fee", fee + 1, fee)):
            self.assertIs(answer.shows(ROAD, 2), True)
            setattr(answer, name, other)
            self.assertIs(answer.shows(ROAD, 2), False)
            self.assertIs(answer.shows(ROAD, 2), False)
            setattr(answer, name, right)
            self.assertIs(answer.shows(ROAD, 2), True)

    def test_best_made_right_for_another_count(self):
        answer, other = best(ROAD, 2), best(ROAD, 3)
        answer.posts, answer.bounds, answer.fee = other.posts, other.bounds, other.fee
        self.assertIs(answer.shows(ROAD, 2), False)
        self.assertIs(answer.shows(ROAD, 3), True)

    def test_paid_after_a_field_was_given_another_value(self):
        answer = paying(ROAD, 5)
        posts, bounds = list(answer.posts), list(answer.bounds)
        for name, other, right in (("posts", [1, 3], posts), ("bounds", [0] * 5, bounds)):
            self.assertIs(answer.shows(ROAD, 5), True)
            setattr(answer, name, other)
            self.assertIs(answer.shows(ROAD, 5), False)
            setattr(answer, name, right)
            self.assertIs(answer.shows(ROAD, 5), True)

    def test_after_a_list_was_changed(self):
        for ask, number in ((best, 2), (paying, 5)):
            answer = ask(ROAD, number)
            for numbers in (answer.posts, answer.bounds):
                for k in range(len(numbers)):
                    kept = numbers.pop(k)
                    self.assertIs(answer.shows(ROAD, number), False)
                    numbers.insert(k, kept)
                    self.assertIs(answer.shows(ROAD, number), True)
                numbers.append(numbers[-1] + 1)
                self.assertIs(answer.shows(ROAD, number), False)
                numbers.pop()
                numbers.reverse()
                self.assertIs(answer.shows(ROAD, number), False)
                numbers.reverse()
                self.assertIs(answer.shows(ROAD, number), True)

    def test_asked_in_any_turn(self):
        answer = best(ROAD, 2)
        other = [(0, 0)]
        for road, many, told in ((ROAD, 2, True), (ROAD, 3, False), (other, 2, False), ([], 2, False),
                                 (ROAD, 2, True), (ROAD, 2, True), (ROAD, 1, False), (other, 1, False)):
            self.assertIs(answer.shows(road, many), told)
        answer = paying(ROAD, 5)
        for road, fee, told in ((ROAD, 5, True), (ROAD, 6, False), (other, 5, False), ([], 5, False),
                                (ROAD, 5, True), (ROAD, 5, True), (ROAD, 4, False)):
            self.assertIs(answer.shows(road, fee), told)

    def test_the_road_as_it_stands_then(self):
        road = list(ROAD)
        answer, paid = best(road, 2), paying(road, 5)
        road[3] = (10, 2)
        self.assertIs(answer.shows(road, 2), cases.Known(road).is_best(2, answer.posts, answer.bounds, answer.fee))
        road.append((11, 0))
        self.assertIs(answer.shows(road, 2), False)
        self.assertIs(paid.shows(road, 5), False)
        road[3:] = [(10, 3)]
        self.assertIs(answer.shows(road, 2), True)
        self.assertIs(paid.shows(road, 5), True)

    def test_asking_changes_nothing(self):
        for known in cases.known_roads():
            road = copy.deepcopy(known.road)
            for answer, number in ((paying(road, 3), 3), (Best([2, 1], [3, 4], 5), 2), (Paid([0], [0, 9]), 1)):
                fields = copy.deepcopy(vars(answer))
                answer.shows(road, number)
                answer.shows(road, number + 1)
                self.assertTrue(vars(answer) == fields)
                self.assertTrue(road == known.road)

    def test_an_answer_says_nothing_of_another(self):
        right = best(ROAD, 2)
        wrong = Best(right.posts, right.bounds, right.fee)
        wrong.bounds[-1] += 1
        for answer, told in ((right, True), (wrong, False), (right, True), (wrong, False)):
            self.assertIs(answer.shows(ROAD, 2), told)


class BoundsShowIt(unittest.TestCase):
    def test_what_is_shown_is_the_least(self):
        for known in cases.known_small_roads()[::11]:
            least = ways(known.road, known.houses)
            for posts in cases.all_posts(known.road):
                if known.houses:
                    answer = best(known.road, len(posts))
                    told = Best(posts, answer.bounds, answer.fee).shows(known.road, len(posts))
                    self.assertIs(told, cases.way_by_words(known.road, posts) == least[len(posts) - 1])


if __name__ == "__main__":
    unittest.main()
