"""Posts, and the bounds that show that no posts do better."""

from posthouses.errors import PostError
from posthouses.roads import is_whole, is_whole_from, one_ways_to, way


def are_bounds(road, bounds):
    if not isinstance(bounds, list) or len(bounds) != len(road) + 1:
        return False
    return all([is_whole(bound) for bound in bounds]) and bounds[0] == 0


def keep_to_stretches(road, bounds, fee):
    for end in range(1, len(road) + 1):
        for first, carried in enumerate(one_ways_to(road, end)):
            if bounds[end] > bounds[first] + carried + fee:
                return False
    return True


def is_least(road, posts, bounds, fee):
    try:
        carried = way(road, posts)
    except PostError:
        return False
    if not are_bounds(road, bounds) or bounds[-1] != carried + fee * len(posts):
        return False
    return keep_to_stretches(road, bounds, fee)


class Answer:
    def __init__(self, posts, bounds):
        self.posts = list(posts)
        self.bounds = list(bounds)


class Best(Answer):
    def __init__(self, posts, bounds, fee):
        Answer.__init__(self, posts, bounds)
        self.fee = fee

    def shows(self, road, many):
        # Of a road without houses no posts are posts too, but 0 is no count of them.
        if not is_whole_from(many, 1) or not is_whole(self.fee):
            return False
        return is_least(road, self.posts, self.bounds, self.fee) and len(self.posts) == many


class Paid(Answer):
    def shows(self, road, fee):
        return is_whole_from(fee, 0) and is_least(road, self.posts, self.bounds, fee)
