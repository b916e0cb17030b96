"""The posts that do best, so many of them or each for a fee, and the bounds that show it.

A step is a pair: what the first houses of a road, so many of them, cost at the least, and the first house of the last
stretch by which they do. A layer holds the steps by so many posts, one for each count of first houses, from none to
all, with None where there are fewer houses than posts.
"""

from posthouses.answers import Best, Paid
from posthouses.errors import BadMany
from posthouses.roads import check_road, is_whole_from, middle, one_ways_to


def check_many(road, many):
    if not is_whole_from(many, 1) or many > len(road):
        raise BadMany("a count of posts goes from 1 to the count of houses")


def check_from_nought(number):
    if not is_whole_from(number, 0):
        raise BadMany("a most or a fee is a whole number from 0 on")


def first_layer(one_ways):
    return [None] + [(one_ways[end][0], 0) for end in range(1, len(one_ways))]


def next_layer(one_ways, before, posts):
    houses = len(one_ways) - 1
    layer = [None for count in range(houses + 1)]
    last = houses - 1
    for end in range(houses, posts - 1, -1):
        # Two stretches that cross have one ways that are together no more than those of their whole and of what they
        # share. So the last stretch begins no earlier for a post more and no later for a house less, and only the
        # firsts between need a look: this keeps all layers together to as many looks as there are stretches, about.
        low = max(before[end][1], posts - 1)
        high = min(last, end - 1)
        layer[end] = min([(before[first][0] + one_ways[end][first], first) for first in range(low, high + 1)])
        last = layer[end][1]
    return layer


def layers_up_to(road, most):
    limit = min(most, len(road))
    if limit == 0:
        return []
    one_ways = [[]] + [one_ways_to(road, end) for end in range(1, len(road) + 1)]
    layers = [first_layer(one_ways)]
    for posts in range(2, limit + 1):
        layers.append(next_layer(one_ways, layers[-1], posts))
    return layers


def paid_steps(road, fee):
    steps = [(0, 0)]
    for end in range(1, len(road) + 1):
        one_ways = one_ways_to(road, end)
        steps.append(min([(steps[first][0] + carried + fee, first) for first, carried in enumerate(one_ways)]))
    return steps


def bounds_of(steps):
    return [least for least, first in steps]


def layered_ends(layers, houses):
    ends = [houses]
    for layer in reversed(layers):
        ends.append(layer[ends[-1]][1])
    return ends


def paid_ends(steps, houses):
    ends = [houses]
    while ends[-1] > 0:
        ends.append(steps[ends[-1]][1])
    return ends


def posts_between(road, ends):
    # The ends come from the last one back to 0, as the steps lead; the posts rise.
    return [middle(road, ends[k], ends[k - 1])[0] for k in range(len(ends) - 1, 0, -1)]


def fitting_fee(least_ways, many):
    # Each post more saves no more than the one ahead of it. So by a fee of just what one post more would save, neither
    # fewer nor more posts cost less. Where no post more can be, any fee up to the last saving fits, and 0 is one.
    if many == len(least_ways):
        return 0
    return least_ways[many - 1] - least_ways[many]


def best(road, many):
    check_road(road)
    check_many(road, many)
    layers = layers_up_to(road, many + 1)
    fee = fitting_fee([layer[-1][0] for layer in layers], many)
    posts = posts_between(road, layered_ends(layers[:many], len(road)))
    return Best(posts, bounds_of(paid_steps(road, fee)), fee)


def ways(road, most):
    check_road(road)
    check_from_nought(most)
    return [layer[-1][0] for layer in layers_up_to(road, most)]


def paying(road, fee):
    check_road(road)
    check_from_nought(fee)
    steps = paid_steps(road, fee)
    return Paid(posts_between(road, paid_ends(steps, len(road))), bounds_of(steps))
