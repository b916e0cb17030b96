"""Roads, the posts nearest to their houses, and the middles of their stretches.

A road is a list of houses, a house a pair of its place and its count of letters.
"""

from posthouses.errors import BadPosts, BadRoad, BadStretch


def is_whole(value):
    # To Python True and False are whole numbers; here they are no numbers.
    return isinstance(value, int) and not isinstance(value, bool)


def is_whole_from(value, least):
    return is_whole(value) and value >= least


def is_house(value):
    if not isinstance(value, tuple) or len(value) != 2:
        return False
    return is_whole(value[0]) and is_whole_from(value[1], 0)


def is_rising(numbers):
    for k in range(1, len(numbers)):
        if numbers[k - 1] >= numbers[k]:
            return False
    return True


# No refusal's words show a number: Python itself refuses to write out very long ones.


def check_road(road):
    if not isinstance(road, list):
        raise BadRoad("a road is a list")
    for house in road:
        if not is_house(house):
            raise BadRoad("a house is a pair of a whole number and a whole number from 0 on")
    if not is_rising([place for place, letters in road]):
        raise BadRoad("the places of a road rise from house to house")


def check_posts(road, posts):
    if not isinstance(posts, list):
        raise BadPosts("posts are a list")
    for post in posts:
        if not is_whole_from(post, 0) or post >= len(road):
            raise BadPosts("a post is the count of one of the road's houses")
    if not is_rising(posts):
        raise BadPosts("posts rise")
    if len(road) > 0 and len(posts) == 0:
        raise BadPosts("a road with houses has one post or more")


def check_stretch(road, first, end):
    if not is_whole(first) or not is_whole(end):
        raise BadStretch("a stretch is told by two whole numbers")
    if first < 0 or first >= end or end > len(road):
        raise BadStretch("a stretch has a house or more, all of them the road's")


def apart(road, house, other):
    return abs(road[house][0] - road[other][0])


def nearest(road, posts):
    check_road(road)
    check_posts(road, posts)
    told = []
    turn = 0
    for house in range(len(road)):
        # The nearest post never goes back as the houses go on, so one walk along the posts serves all houses.
        # Only a post that is strictly nearer is gone on to: so of two as near the first one stays.
        while turn + 1 < len(posts) and apart(road, house, posts[turn + 1]) < apart(road, house, posts[turn]):
            turn += 1
        told.append(posts[turn])
    return told


def way(road, posts):
    targets = nearest(road, posts)
    return sum([road[house][1] * apart(road, house, post) for house, post in enumerate(targets)])


def ways_to_each(houses):
    here = houses[0][0]
    behind = 0
    ahead = sum([letters for place, letters in houses])
    carried = sum([letters * (place - here) for place, letters in houses])
    told = []
    for place, letters in houses:
        # A step on takes the target farther from each letter behind it and nearer to each one ahead,
        # so each way follows from the one before, without a walk over all houses.
        carried += (behind - ahead) * (place - here)
        told.append(carried)
        here = place
        behind += letters
        ahead -= letters
    return told


def middle(road, first, end):
    check_road(road)
    check_stretch(road, first, end)
    carried = ways_to_each(road[first:end])
    least = min(carried)
    return [first + k for k in range(end - first) if carried[k] == least]


def one_way(road, first, end):
    check_road(road)
    check_stretch(road, first, end)
    return min(ways_to_each(road[first:end]))


def one_ways_to(road, end):
    post = end - 1
    from_post_on = road[post][1]
    ahead = 0
    carried = 0
    told = [0]
    for first in range(end - 2, -1, -1):
        letters = road[first][1]
        ahead += letters
        carried += letters * apart(road, first, post)
        # The stretch grows ahead of the post alone, so the best post never goes on again, and one walk back serves
        # every stretch with this end.
        while ahead > from_post_on:
            carried -= (ahead - from_post_on) * apart(road, post - 1, post)
            post -= 1
            from_post_on += road[post][1]
            ahead -= road[post][1]
        told.append(carried)
    told.reverse()
    return told
